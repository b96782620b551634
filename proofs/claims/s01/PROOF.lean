import PyProof.Rows.All
import Wide.All
import OpenK.AllK
import Wide.FinOn
import PyProof.EqAt
import PyProof.EqKinds
import PyProof.TupleCall
import KE.BitLaws
import Open.SpecLaws
import KE.OsHead
import KE.OsGo
import KE.KSortKeySt
import KE.KLam
import KE.KMinKey
import PyProof.ZipIter
import PyProof.TupleIter
import PySem.Challenge.RW_wordboard_s01_answers
set_option Elab.async false
set_option linter.all false
set_option maxRecDepth 100000
set_option maxHeartbeats 0
open List renaming length_map→aA,getElem?_eq_getElem→aE,getD_eq_getElem?_getD→aF,map_cons→aJ,mem_cons_of_mem→aN,getElem?_map→aP,contains_iff_mem→aR,mem_cons_self→aT,mem_of_getElem?→aY,range→bA,mem_map→bE,size_toArray→bK,getElem?_eq_some_iff→bL,mem_range→bM,mem_cons→bN,mem_filter→bO,map_map→bR,length_append→bZ,map_append→cC,length_cons→cM,all_eq_true→cN,mem_singleton→cP,length_range→cR,replicate→cU,mem_append→cW,map_congr_left→dD,mem_append_right→dF,zip_cons_cons→dH,filterMap_cons→dM,length_set→dO,nodup_cons→dU,sum_cons→dW,getElem?_eq_none→eD,count_cons→eV,append_nil→eX,take_of_length_le→gM,count_pos_iff→iA,mem_append_left→iG,length_take→iH,length→iI,filter_cons_of_pos→iJ,getElem?_range→iU,find?_cons→iV,length_filter_le→jI,filterMap_append→jJ,mem_reverse→jM,mem_flatMap→jN,any_eq_true→jO,take_succ→jV,filter_cons_of_neg→kI,filter_map→kM,replicate_succ→kT,count_erase_of_ne→lD,mem_filterMap→lO,count_erase_self→lQ,getElem?_zip_eq_some→mB,foldl_cons→mD,map_nil→mL,getElem?_set_ne→mM,filter_congr→mN,length_erase_of_mem→mQ,nodup_nil→nM,lookup_cons→nN,filter_cons→nQ,pairwise_cons→oM,range_succ→pC,flatMap_cons→pO,append_assoc→pP,take_length→qR,length_drop→qS,getElem?_eq_none_iff→rK,drop_eq_getElem_cons→rL,length_reverse→rX,flatMap_append→rY,length_zip→sZ,prefix_append→tG,lookup→tO,pairwise_map→uS,length_pos_of_mem→uT,getElem?_set_self→uU,flatten_cons→uV,all_map→uW,append_inj_left'→wC,prefix_refl→wR,nodup_range→wU,mem_erase_of_ne→xS,forall_mem_cons→xT,eq_nil_of_length_eq_zero→xU,drop_eq_nil_iff→xV,length_pos_iff→zE,count_eq_zero→BK,ext_getElem?→EB,any_cons→ES,all_cons→ET,getElem_mem→HF,getElem?_cons_zero→HG,drop_length→HH,append_cancel_left→HI,of_mem_zip→KL,length_nil→KM,idxOf_cons→KN,erase_cons→KO,length_singleton→MB,isEmpty_reverse→OW,count_cons_self→OX,map_eq_nil_iff→RL,getElem_of_mem→RM,filter_eq_self→RN,map_take→TF,map_drop→TH,filter_append→UB,reverse_cons→YT,nodup_append→YU,flatMap_nil→Ah,ext_getElem→Ai,nil_append→Fz,mem_zipIdx_iff_getElem?→Ga,forIn_cons→Gb,erase_comm→Gc,getElem?_append_right→Km,forIn_nil→Kn,mem_or_eq_of_mem_set→Kx,getElem?_append_left→Ky,length_filterMap_le→Og,idxOf_lt_length_iff→Oh,getElem?_take_of_lt→Oi,getElem?_cons_succ→Rj,range_succ_eq_map→Uo,pairwise_lt_range→Up,drop_eq_nil_of_le→Uq,take_append_drop→Vh,length_replicate→Vi,getElem?_zipIdx→Yz,mem_map_of_mem→Zn,filter_sublist→Zo,length_zipIdx→t9,getElem_idxOf→u9,foldl→v8,filterMap_nil→v9,zip_map_left→B2,foldl_append→B3,zipIdx_cons→O0,not_mem_nil→O1,map_snd_zip→O2,map_reverse→O3,isEmpty_map→O4,cons_append→O5,head?_cons→P6,filter_nil→P7,foldl_map→X4,drop_zero→X5,drop_drop→X6,map_set→fb
open PySem renaming Value→aC,wpAny_bind→aD,Shared→aI,sizeLine_eq→aX,wpAny_pure→bC,FuncData→bG,Program→bS,World→cY,Around→dZ,wpAny_loadPart'→fB,wpAny_truthy_bool→gH,wpAny_mono→jD,wpAny_Call_Name_kw→jW,wpAny_seqItems→kO,wpAny_newObj_type→lC,wpAny_holding→lS,DictEntry→lX,NameKind→nG,wpAny_callSpecial?_slot→oN,wpAny_typeNameOfWhole_keyiter→pK,wpAny_passesOwn→pS,plainId_quiet→pW,wpAny_call_entry→sY,wpAny_typeNameOf_keyiter→uF,codeAny_builtin→uR,tupleKind_room_in1→uZ,IsPair→vB,wpAny_letGo→vR,wpAny_pyIter_list→xB,wpAny_tryCatch→EW,wpAny_setField_rec→EX,wpAny_field→IV,wpAny_dictEntries→IW,wpAny_pyIter_zip→MF,call_meets→PB,wpAny_updateSeq→RD,wpAny_ite_split→RE,wpAny_execs_nil→RF,pushCells_keeps→RG,wpAny_setField→UP,wpAny_attempt→Ab,codeAny_mono→Gg,wpAny_isInstance→Kt,Params→Ku,wpAny_of_eq→Nu,IsZip→Ny,wpAny_specialOf→Rb,wpAny_dictEpoch→Rc,wpAny_rule→Va,Result→Vc,CmpOp→Vd,wpAny_letOwnedTupleGo_zip→Yv,wpAny_standAt→Zl,seqIndex_neg→A6,richCompare_meets_room→A7,wpAny_isTrue_Compare1→M9,wpAny_isOneOf_keyiter→N0,builtinLookup_eq_fast→N1,wpAny_updateSeq_pair→P2,seqIndex_of→P3,wpAny_pyIter_tuple→Y4,wpAny_call→Y5,wpAny_Name→Y6,typeIs_int→Y7,wpAny_pyIter_slot→de,wpAny_pyIter_enum→df,wpAny_assign_Name→dh,wpAny_Call_method→di,slot_list_getitem→dj,Model→dr,Keyword→dt,ItemsOf→du
open PySem.Heap renaming get?_push_of_some→aG,lt_size→bD,get?_push_size→bF,size_push→dE,get?_update_other→gL,get?_update_self→lP,SameBut→oK,size_update→Ac,ExtBut→Cz,get?_push_ne→A8
open Sz32 renaming at_→aH,upper→aQ,isLetter→bI,letterFold→cG,value→cH,tile→eT,takes→fG,wordFold→fK,known→gS,plays→kL,on→kZ,St→pN,letters→qP,crossing→sW,does→tL,far→uQ,fresh→wO,best→wQ,before→xR,counted→zV,rackRight→BI,bytesOf→IT,sooner→OR,Play→OZ,spelled→YL,behind→Cy,put→Yu,could→r0,laid→M8
open Nat renaming le_refl→aU,lt_of_lt_of_le→bW,zero_le→cA,ne_of_lt→cJ,le_trans→cV,lt_irrefl→fV,le_add_right→nW,ne_of_gt→oO,lt_succ_of_lt→vC,le_succ→xZ,le_of_eq→zX,le_of_succ_le→EM,le_of_lt→KJ,min_eq_left→LZ,zero_add→YZ,succ_ne_self→Dc,lt_succ_self→Dd,add_zero→Vg,mul_le_mul_right→Zm,lt_of_le_of_lt→B0,le_succ_of_le→N9,not_lt_zero→X2,succ→Z3
open Bool renaming and_eq_true→bH,false_ne_true→bP,noConfusion→cO,eq_iff_iff→cZ,or_eq_true→dP,false_eq_true→eO,and_eq_false_iff→MD,true_or→YW,false_and→Kp,false_or→Om,and_eq_true_iff→Zd,and_false→Y0
open Or renaming inl→cB,inr→N8
open Int renaming ofNat→cF,toNat_natCast→kN,mul_assoc→xX,natCast_mul→zG,mul_nonneg→BO,sub_mul→PF,one_mul→PH,mul_comm→ZA,mul_le_mul→Kz,mul_one→Zp,le_refl→Zq,toNat→P8,natCast_zero→P9,natCast_add→X9,add_assoc→fe
open Option renaming map_eq_some_iff→cK,isSome_iff_exists→rW,isSome_map→TZ,bind_some→YQ,none→YY,bind_eq_some_iff→Kw,isSome_some→Yy,getD_none→t5
open Option.some renaming inj→cX,injEq→yD
open Sz32Neutral renaming step→dC,octets→dY,start→ME
open PySem.Value renaming ref→dQ,type→oH,none→oI,int→pB,bool→vY,str→OT,notImplemented→Vb,isStrOf→V9,isInt→dk,float→dn,bytes→dq
open Sum renaming inl→eI,inr→YX
open PySem.Obj renaming mapSeq→eJ,data_mapFields→BN,mapFields→Re,isFreed_of_fields→Yw,cls_mapFields→N4
open PySz32 renaming shape→eM,whole→eU,bound→gW,answers→uA,answers_asked→LW
open PySem.PassesOwn renaming never→eP
open PyProof.Rows renaming callWith_type1→eS,Constant_none→Af,AllBare→Gk,boot_all→Vf,subscriptTail_builtinR→A9,Call_→P5,lt_int→W3,Subscript_→Z0
open Ne renaming symm→fE
open False renaming elim→fS
open PySem.PyData renaming int→gP,depthAll→gX,canLayAll0→lY,depth→yC,eqv→RH,canLay0→N2,eqvAll→P4
open PySem.Str renaming ofString→hU
open PySem.Builtin.SmallTypes renaming nextOf→hX,stopIteration→EL,ownedTupleIsFree→N6,ownedTupleHandOut→N7
open PySem.F renaming slot_dict_keyiterator_next→iB,args_dict_keyiterator_next_1→Gi,entry_dict_keyiterator_next→Kk,slot_dict_keyiterator_iter→Kv,slot_tuple_iterator_next→Rf,slot_dict_items→W0,slot_dict_iter→Y9,slot_zip_next→dz,slot_int_rmul→ed,slot_dict_len→ee
open Classical renaming byContradiction→lF,not_not→PJ
open PySem.Heap.SameBut renaming update→lW
open PySem.Around renaming under_plainId→lZ,under→Nz,frames_deeper→Ul
open PySem.Value.type renaming inj→mK
open PyInside renaming lists→mP,call→qQ,each→Fv
open PySem.Builtin.Builtins renaming bindParams→mW
open PySem.Builtin.List renaming listExtendWith→nV,listTooLong→pQ,listLengthHint→TC,listSameRef→YN,listItems→Ae
open Int.ofNat renaming inj→oC
open PyFlat renaming rows→pR,calls→pX,told→LY,row→RI,played→Kl,call→Z1
open PySem.SeqAt renaming shaped→uG,EqAt→IF
open PySem.NameKind renaming free→vA,cell→Fu
open Array renaming length_toList→yF,getElem?_eq_some_iff→zY,toList→Rp
open PySem.Calls renaming spliced_cons→zW,spliced_nil→UQ,Name_function_global→Gj,callWith_builtin→Rg,evalArgs_plain→Ve
open ForInStep renaming yield→EU
open True renaming intro→IS
open PySem.Builtin.Dict_items renaming ownsTuple→IX
open PySem.SeqAt.EqAt renaming int_int→LX,str_int→Nv,int_str→Nw
open UInt8 renaming toNat_ofNat'→SY,ofNat→Uz
open Sum.inl renaming inj→YM
open Prod renaming snd→YO,ext→W4
open PySem.Builtin.Dict renaming showsAll→Da
open List.Pairwise renaming filter→De
open PySem.Walks renaming list→Gh
open List.Sublist renaming map→Oj
open List.Perm renaming cons_inv→Rk
open PySem.Code renaming isFrame→Uk
open PySem.Data renaming seq→Yx,noConfusion→N5
open PySem.Shared renaming heap→Y8
open PySem.Heap.IsSliceOf renaming new→dv
open PySem.CmpOp renaming NotIn→eh
namespace My
open Sz32 (at_ on)
def nJ (b:List Nat)(sx sy:Int):Nat->Int->Int->List Nat
 | 0,_,_=>[]
 | k+1,x,y=>if at_ b x y=0 then[] else at_ b x y::nJ b sx sy k (x+sx) (y+sy)
theorem LU (b:List Nat)(dx dy:Int):∀(k:Nat) (x y:Int),(xR b dx dy k x y).map (λq=>q.1)=nJ b (-dx) (-dy) k (x - dx) (y - dy)
 | 0,_,_=>rfl
 | k+1,x,y=>by
  unfold xR nJ
  by_cases h:at_ b (x - dx) (y - dy)=0
  ·simp[h]
  ·simp only[h,if_false,aJ]
   rw[LU b dx dy k]
   rfl
theorem Yp {b:List Nat}{x y:Int}(h:at_ b x y≠0):0<=x/\x < 15/\0<=y/\y < 15:=by
 unfold aH at h
 split at h
 ·assumption
 ·exact absurd rfl h
def B7 (sx sy:Int):Prop:=(sx=1/\sy=0)\/(sx= -1/\sy=0)\/(sx=0/\sy=1)\/(sx=0/\sy= -1)
def DZ (sx sy x y:Int):Nat:=if sx=1 then(15 - x).toNat else if sx= -1 then(x+1).toNat else if sy=1 then(15 - y).toNat else(y+1).toNat
theorem LV {b:List Nat}{sx sy x y:Int}(d:B7 sx sy)(h:at_ b x y≠0):DZ sx sy (x+sx) (y+sy)+1=DZ sx sy x y:=by
 have:=Yp h
 unfold DZ
 rcases d with⟨rfl,rfl⟩ | ⟨rfl,rfl⟩ | ⟨rfl,rfl⟩ | ⟨rfl,rfl⟩ <;> simp <;> omega
theorem Hu {b:List Nat}{sx sy:Int}(d:B7 sx sy):∀(k:Nat) (x y:Int),DZ sx sy x y<=k->nJ b sx sy k x y=nJ b sx sy (DZ sx sy x y) x y
 | 0,x,y,h=>by
  have:DZ sx sy x y=0:=by omega
  rw[this]
 | k+1,x,y,h=>by
  by_cases e:at_ b x y=0
  ·unfold nJ
   rw[if_pos e]
   cases DZ sx sy x y with
   | zero=>rfl
   | succ n=>simp[e]
  ·have s:=LV d e
   rw[<-s]
   show(if at_ b x y=0 then[] else at_ b x y::nJ b sx sy k (x+sx) (y+sy))=(if at_ b x y=0 then[] else at_ b x y::nJ b sx sy (DZ sx sy (x+sx) (y+sy)) (x+sx) (y+sy))
   rw[if_neg e,if_neg e,Hu d k _ _ (by omega)]
theorem We {b:List Nat}{sx sy:Int}(d:B7 sx sy)(x y:Int):nJ b sx sy 15 x y=nJ b sx sy (DZ sx sy x y) x y:=by
 by_cases e:at_ b x y=0
 ·unfold nJ
  rw[if_pos e]
  cases DZ sx sy x y with
  | zero=>rfl
  | succ n=>simp[e]
 ·apply Hu d
  have:=Yp e
  unfold DZ
  rcases d with⟨rfl,rfl⟩ | ⟨rfl,rfl⟩ | ⟨rfl,rfl⟩ | ⟨rfl,rfl⟩ <;> simp <;> omega
theorem Hv {b:List Nat}{sx sy:Int}(d:B7 sx sy){x y:Int}(e:at_ b x y≠0):nJ b sx sy 15 x y=at_ b x y::nJ b sx sy 15 (x+sx) (y+sy):=by
 rw[We d x y,We d (x+sx) (y+sy), <-LV d e]
 show(if at_ b x y=0 then[] else _)=_
 rw[if_neg e]
theorem d9 {b:List Nat}{sx sy:Int}{x y:Int}(e:at_ b x y=0):nJ b sx sy 15 x y=[]:=by
 unfold nJ
 rw[if_pos e]
theorem uD (b:List Nat)(sx sy:Int):∀(k:Nat) (x y:Int),(nJ b sx sy k x y).length<=k
 | 0,_,_=>aU _
 | k+1,x,y=>by
  unfold nJ
  split
  ·exact cA _
  ·rw[cM];have:=uD b sx sy k (x+sx) (y+sy);omega
def wfL:List (List Int×Int):=[([0,7],3),([7,7],3),([0,0],2),([3,3],2),([4,4],2),([5,5],2),([6,6],2)]
def lfL:List (List Int×Int):=[([2,2],3),([2,6],3),([1,1],2),([0,4],2),([1,5],2),([4,7],2)]
def Px (kvs:List (List Int×Int))(k:List Int):Option Int:=(kvs.find? λp=>decide (p.1=k)).map (·.2)
theorem B9:∀a:Fin 8,∀b:Fin 8,(Px wfL [(min a.val b.val:Nat),(max a.val b.val:Nat)]).getD 1=((if(min a.val b.val,max a.val b.val)=(0,7)\/(min a.val b.val,max a.val b.val)=(7,7) then 3 else if(min a.val b.val,max a.val b.val)=(0,0)\/(min a.val b.val=max a.val b.val/\3<=min a.val b.val/\min a.val b.val<=6) then 2 else 1:Nat):Int):=by decide+kernel
theorem F5:∀a:Fin 8,∀b:Fin 8,(Px lfL [(min a.val b.val:Nat),(max a.val b.val:Nat)]).getD 1=((if(min a.val b.val,max a.val b.val)=(2,2)\/(min a.val b.val,max a.val b.val)=(2,6) then 3 else if(min a.val b.val,max a.val b.val)=(1,1)\/(min a.val b.val,max a.val b.val)=(0,4)\/(min a.val b.val,max a.val b.val)=(1,5)\/(min a.val b.val,max a.val b.val)=(4,7) then 2 else 1:Nat):Int):=by decide+kernel
theorem Zt {x y:Int}(hx:0<=x)(hx2:x < 15)(hy:0<=y)(hy2:y < 15):(Px wfL [((uQ x y).1:Int),((uQ x y).2:Int)]).getD 1=(fK x y:Int):=by
 have ha:(x - 7).natAbs < 8:=by omega
 have hb:(y - 7).natAbs < 8:=by omega
 exact B9 ⟨_,ha⟩ ⟨_,hb⟩
theorem k7 {x y:Int}(hx:0<=x)(hx2:x < 15)(hy:0<=y)(hy2:y < 15):(Px lfL [((uQ x y).1:Int),((uQ x y).2:Int)]).getD 1=(cG x y:Int):=by
 have ha:(x - 7).natAbs < 8:=by omega
 have hb:(y - 7).natAbs < 8:=by omega
 exact F5 ⟨_,ha⟩ ⟨_,hb⟩
end My
namespace My
def sq (c:Nat):Int:=if c=0 then 46 else c
structure BM (b:List Nat):Prop where
 len:b.length=225
 let_:∀c∈b,c=0\/bI c=true
theorem gR {c:Nat}:bI c=true↔(65<=c/\c<=90)\/(97<=c/\c<=122):=by
 simp[bI]
theorem VA {c:Nat}(h:c=0\/bI c=true):sq c=46↔c=0:=by
 unfold sq
 rcases h with h | h
 ·simp[h]
 ·rw[gR] at h
  have:¬c=0:=by omega
  simp[this];omega
theorem BM.getD {b:List Nat}(h:BM b)(i:Nat):b.getD i 0=0\/bI (b.getD i 0)=true:=by
 rw[aF]
 cases e:b[i]? with
 | none=>exact .inl rfl
 | some c=>exact h.let_ c (aY e)
theorem BM.at_ {b:List Nat}(h:BM b)(x y:Int):aH b x y=0\/bI (aH b x y)=true:=by
 unfold aH
 split
 ·exact h.getD _
 ·exact .inl rfl
def bQ (x y d i:Int):Int×Int:=(if d=1 then x else x+i,if d=1 then y+i else y)
def under (b:List Nat)(x y d i:Int):Nat:=aH b (bQ x y d i).1 (bQ x y d i).2
theorem BM.under {b:List Nat}(h:BM b)(x y d i:Int):under b x y d i=0\/bI (under b x y d i)=true:=h.at_ _ _
def cE (b:List Nat)(x y d:Int)(n:Nat):List Nat:=(bA n).filter λi=>under b x y d i==0
def lV (b:List Nat)(x y d:Int)(wd:List Nat):Bool:=
 decide (2<=wd.length)&&kZ (bQ x y d ((wd.length:Int) - 1)).1 (bQ x y d ((wd.length:Int) - 1)).2&&(under b x y d (-1)==0&&under b x y d wd.length==0)&&
  ((bA wd.length).all λi=>under b x y d i==0 || under b x y d i==wd.getD i 0)&&decide (0 < (cE b x y d wd.length).length)
def gZ (b:List Nat)(x y d:Int)(wd:List Nat)(i:Nat):List Nat:=
 let bf:=nJ b (-d) (-(1 - d)) 15 ((bQ x y d i).1 - d) ((bQ x y d i).2 - (1 - d))
 let bh:=nJ b d (1 - d) 15 ((bQ x y d i).1+d) ((bQ x y d i).2+(1 - d))
 if bf.isEmpty&&bh.isEmpty then[] else bf.reverse++[wd.getD i 0]++bh
theorem V3 {d:Int}(h:d=0\/d=1):B7 d (1 - d)/\B7 (-d) (-(1 - d)):=by
 rcases h with rfl | rfl
 ·exact⟨.inr (.inr (.inl ⟨rfl,rfl⟩)),.inr (.inr (.inr ⟨rfl,rfl⟩))⟩
 ·exact⟨.inl ⟨rfl,rfl⟩,.inr (.inl ⟨rfl,rfl⟩)⟩
theorem Ts (b:List Nat)(x y d:Int)(wd:List Nat)(i:Nat):(gZ b x y d wd i).length<=31:=by
 unfold gZ
 have h1:=uD b (-d) (-(1 - d)) 15 ((bQ x y d i).1 - d) ((bQ x y d i).2 - (1 - d))
 have h2:=uD b d (1 - d) 15 ((bQ x y d i).1+d) ((bQ x y d i).2+(1 - d))
 dsimp only
 split
 ·exact cA _
 ·simp only[bZ,rX,cM,KM]
  omega
def gG (b:List Nat)(x y d:Int)(wd:List Nat):List (List Nat):=((cE b x y d wd.length).map λi=>gZ b x y d wd i).filter λl=> !l.isEmpty
theorem CA (b:List Nat)(x y d:Int)(n:Nat):(cE b x y d n).length<=n:=by
 unfold cE
 exact cV (jI _ _) (by rw[cR];exact aU _)
theorem Si {b:List Nat}{x y d:Int}{n i:Nat}(h:i∈cE b x y d n):i < n:=by
 unfold cE at h
 simpa using(bO.mp h).1
def zU (x y d:Int)(n:Nat):Bool:=(bA n).any λi=>decide ((bQ x y d i).1=7)&&decide ((bQ x y d i).2=7)
def nY (b:List Nat)(x y d:Int)(wd:List Nat):Bool:=
 if(b.all λc=>c==0)=true then zU x y d wd.length else decide ((cE b x y d wd.length).length < wd.length) || !(gG b x y d wd).isEmpty
def dA (l:List Nat):Int:=(l.map λc=>(cH c:Int)).sum
def Fw (x y d:Int)(n:Nat):Prop:=∀i:Nat,i < n->0<=(bQ x y d i).1/\(bQ x y d i).1 < 15/\0<=(bQ x y d i).2/\(bQ x y d i).2 < 15
def C0 (x y d:Int)(i:Nat):Int:=(fK (bQ x y d i).1 (bQ x y d i).2:Nat)
def Cd (x y d:Int)(wd:List Nat)(i:Nat):Int:=((cG (bQ x y d i).1 (bQ x y d i).2:Nat) - 1) * ((cH (wd.getD i 0):Nat):Int)
theorem Oo (x y:Int):1<=fK x y/\fK x y<=3:=by
 unfold fK
 dsimp only
 split
 ·decide
 ·split <;> decide
theorem Xh (x y:Int):1<=cG x y/\cG x y<=3:=by
 unfold cG
 dsimp only
 split
 ·decide
 ·split <;> decide
def Ym (x y d:Int)(wd:List Nat)(ps:List Nat):Int:=ps.foldl (λt i=>t+Cd x y d wd i) (dA wd)
def Yn (x y d:Int)(ps:List Nat):Int:=ps.foldl (λf i=>f * C0 x y d i) 1
theorem FZ {b:List Nat}(hb:BM b)(sx sy:Int):∀(k:Nat) (x y:Int),∀c∈nJ b sx sy k x y,bI c=true
 | 0,_,_,c,h=>by simp[nJ] at h
 | k+1,x,y,c,h=>by
  unfold nJ at h
  split at h
  ·simp at h
  ·rename_i h0
   rcases bN.mp h with e | h
   ·rw[e];exact(hb.at_ x y).resolve_left h0
   ·exact FZ hb sx sy k _ _ c h
def CQ (b:List Nat)(x y d:Int)(wd:List Nat)(i:Nat):Int:=if(gZ b x y d wd i).isEmpty=true then 0 else(dA (gZ b x y d wd i)+Cd x y d wd i) * C0 x y d i
def Fm (b:List Nat)(x y d:Int)(wd:List Nat):Int:=
 Ym x y d wd (cE b x y d wd.length) * Yn x y d (cE b x y d wd.length)+((cE b x y d wd.length).map λi=>CQ b x y d wd i).sum+if(cE b x y d wd.length).length=7 then 50 else 0
def mT (b:Int):Bool:=decide (65<=b)&&decide (b<=90)
def pU (b:Int):Bool:=decide (97<=b)&&decide (b<=122)
def nD (l:List Int):Bool:=decide (l.length<=7)&&l.all λb=>mT b || decide (b=63)
def gQ (x y d:Int)(wd rk:List Nat):Bool:=kZ x y&&(decide (d=0) || decide (d=1))&&decide (1<=wd.length)&&decide (wd.length<=15)&&nD (rk.map cF)&&(wd.map cF).all λb=>mT b || pU b
theorem CV (l:List Nat):((l.map cF).all λb=>mT b || pU b)=l.all bI:=by
 rw[uW]
 apply cZ.mpr
 rw[cN,cN]
 have e:∀c:Nat,((λb=>mT b || pU b) ∘ cF) c=bI c:=λc=>by
  show(mT (c:Int) || pU (c:Int))=_
  unfold mT pU bI
  rw[cZ]
  simp only[dP,bH,decide_eq_true_eq]
  omega
 exact⟨λh c hc=>by rw[<-e];exact h c hc,λh c hc=>by rw[e];exact h c hc⟩
theorem e7 (rk:List Nat)(h:rk.length<=7):nD (rk.map cF)=(decide (rk.length<=7)&&rk.all λc=>c==63 || (decide (65<=c)&&decide (c<=90))):=by
 unfold nD
 rw[aA,uW]
 congr 1
 apply cZ.mpr
 rw[cN,cN]
 have e:∀c:Nat,((λb=>mT b || decide (b=63)) ∘ cF) c=(c==63 || (decide (65<=c)&&decide (c<=90))):=λc=>by
  show(mT (c:Int) || decide ((c:Int)=63))=_
  unfold mT
  rw[cZ]
  simp only[dP,bH,decide_eq_true_eq,beq_iff_eq]
  omega
 exact⟨λh c hc=>by rw[<-e];exact h c hc,λh c hc=>by rw[e];exact h c hc⟩
def vV (ns:List Int)(n k:Nat):Prop:=ns[n]? =some (k:Int)/\n+1+k<=ns.length
def rowOf (ns:List Int)(n k:Nat):List Int:=(ns.drop (n+1)).take k
end My
namespace My
open Sz32 (at_ on)
def qZ:List Int->Int
 | []=>1
 | a::l=>a * qZ l
theorem QQ {α:Type}(f:α->Int):∀(l:List α) (a:Int),l.foldl (λs x=>s+f x) a=a+(l.map f).sum
 | [],a=>by simp
 | x::l,a=>by
  rw[mD,QQ f l,aJ,dW,fe]
theorem XN {α:Type}(f:α->Int):∀(l:List α) (a:Int),l.foldl (λs x=>s * f x) a=a * qZ (l.map f)
 | [],a=>by simp[qZ]
 | x::l,a=>by
  rw[mD,XN f l,aJ,qZ,xX]
theorem XZ {α:Type}(f:α->Nat):∀(l:List α) (a:Nat),((l.foldl (λs x=>s+f x) a:Nat):Int)=a+(l.map λx=>(f x:Int)).sum
 | [],a=>by simp
 | x::l,a=>by
  rw[mD,XZ f l,aJ,dW]
  omega
theorem QX {α:Type}(f:α->Nat):∀(l:List α) (a:Nat),((l.foldl (λs x=>s * f x) a:Nat):Int)=a * qZ (l.map λx=>(f x:Int))
 | [],a=>by simp[qZ]
 | x::l,a=>by
  rw[mD,QX f l,aJ,qZ,zG,xX]
theorem UE (l m:List Int):(l++m).sum=l.sum+m.sum:=by
 induction l with
 | nil=>simp
 | cons a l ih=>rw[O5,dW,dW,ih,fe]
theorem Wn (l m:List Int):qZ (l++m)=qZ l * qZ m:=by
 induction l with
 | nil=>simp[qZ]
 | cons a l ih=>rw[O5,qZ,qZ,ih,xX]
theorem WD {α:Type}(f:α->Int):∀(l:List α),(∀x∈l,f x=1)->qZ (l.map f)=1
 | [],_=>rfl
 | x::l,h=>by
  rw[aJ,qZ,h x (by simp),WD f l (λy hy=>h y (aN _ hy)),PH]
theorem UZ (v lf:Nat->Int)(e:Nat->Bool):∀is:List Nat,(is.map λi=>v i * (if e i=true then lf i else 1)).sum=(is.map v).sum+((is.filter e).map λi=>(lf i - 1) * v i).sum
 | []=>rfl
 | i::is=>by
  rw[aJ,dW,UZ v lf e is,aJ,dW,nQ]
  cases h:e i
  ·simp only[eO,if_false,Zp]
   omega
  ·simp only[if_true,aJ,dW]
   rw[PF,PH,ZA (v i) (lf i)]
   omega
theorem Bh (wf:Nat->Int)(e:Nat->Bool):∀is:List Nat,qZ (is.map λi=>if e i=true then wf i else 1)=qZ ((is.filter e).map wf)
 | []=>rfl
 | i::is=>by
  rw[aJ,qZ,Bh wf e is,nQ]
  cases h:e i
  ·simp
  ·simp[qZ]
theorem Bv {α:Type}(f:Nat->α)(l:List Nat):(bA l.length).map (λi=>f (l.getD i 0))=l.map f:=by
 apply Ai
 ·simp
 ·intro i h1 h2
  have hi:i < l.length:=by simpa using h2
  simp[aF,aE hi]
section
variable (b:List Nat)(x y d:Int)(wd:List Nat)
def dR:OZ:=⟨x,y,d==1,wd⟩
theorem CT (k:Int):(dR x y d wd).cell k=bQ x y d k:=by
 unfold Sz32.Play.cell dR bQ
 by_cases h:d=1 <;> simp[h]
def Kr (i:Nat):Nat×Int×Int:=(wd.getD i 0,bQ x y d i)
theorem xP:wO b (dR x y d wd)=(cE b x y d wd.length).map (Kr x y d wd):=by
 unfold wO cE
 rw[kM]
 have e:(λ(i:Nat)=>((dR x y d wd).word.getD i 0,(dR x y d wd).cell i))=Kr x y d wd:=by
  funext i
  rw[CT];rfl
 show List.map (λ(i:Nat)=>((dR x y d wd).word.getD i 0,(dR x y d wd).cell i)) _=_
 rw[e]
 congr 1
theorem Fl:(zV b ((bA wd.length).map λ(i:Nat)=>((dR x y d wd).word.getD i 0,(dR x y d wd).cell i)):Int)=Ym x y d wd (cE b x y d wd.length) * Yn x y d (cE b x y d wd.length):=by
 have e:(λ(i:Nat)=>((dR x y d wd).word.getD i 0,(dR x y d wd).cell i))=Kr x y d wd:=by
  funext i
  rw[CT];rfl
 rw[e]
 unfold zV
 dsimp only
 rw[zG,XZ,QX,bR,bR]
 unfold Ym Yn
 rw[QQ,XN]
 congr 1
 ·have h1:=UZ (λi=>((cH (wd.getD i 0):Nat):Int)) (λi=>((cG (bQ x y d i).1 (bQ x y d i).2:Nat):Int)) (λi=>under b x y d i==0) (bA wd.length)
  have h2:(bA wd.length).map ((λq:Nat×Int×Int=>((cH q.1 * if(at_ b q.2.1 q.2.2==0)=true then cG q.2.1 q.2.2 else 1:Nat):Int)) ∘ Kr x y d wd)=
    (bA wd.length).map λi=>((cH (wd.getD i 0):Nat):Int) * (if(under b x y d i==0)=true then((cG (bQ x y d i).1 (bQ x y d i).2:Nat):Int) else 1):=by
   apply dD
   intro i _
   show((cH (wd.getD i 0) * if(under b x y d i==0)=true then _ else 1:Nat):Int)=_
   rw[zG]
   congr 1
   split <;> rfl
  rw[h2,h1]
  have h3:(bA wd.length).map (λi=>((cH (wd.getD i 0):Nat):Int))=wd.map λc=>((cH c:Nat):Int):=Bv (λc=>((cH c:Nat):Int)) wd
  rw[h3]
  show((0:Nat):Int)+(dA wd+((cE b x y d wd.length).map (Cd x y d wd)).sum)=_
  simp
 ·have h1:=Bh (λi=>C0 x y d i) (λi=>under b x y d i==0) (bA wd.length)
  have h2:(bA wd.length).map ((λq:Nat×Int×Int=>((if(at_ b q.2.1 q.2.2==0)=true then fK q.2.1 q.2.2 else 1:Nat):Int)) ∘ Kr x y d wd)=
    (bA wd.length).map λ(i:Nat)=>if(under b x y d i==0)=true then C0 x y d i else 1:=by
   apply dD
   intro i _
   show((if(under b x y d i==0)=true then _ else 1:Nat):Int)=_
   split <;> rfl
  rw[h2,h1]
  rfl
theorem RA (dx dy:Int):∀(k:Nat) (x y:Int),∀q∈xR b dx dy k x y,at_ b q.2.1 q.2.2=q.1/\q.1≠0
 | 0,_,_,q,h=>by simp[xR] at h
 | k+1,x,y,q,h=>by
  unfold xR at h
  split at h
  ·simp at h
  ·rename_i h0
   rcases bN.mp h with e | h
   ·subst e
    exact⟨rfl,h0⟩
   ·exact RA dx dy k _ _ q h
theorem K4 (hd:d=0\/d=1):(if(dR x y d wd).down=true then((1:Int),(0:Int)) else(0,1))=(d,1 - d):=by
 unfold dR
 rcases hd with rfl | rfl <;> simp
def zR (i:Nat):List (Nat×Int×Int):=
 (xR b d (1 - d) 15 (bQ x y d i).1 (bQ x y d i).2).reverse++(Kr x y d wd i::Cy b d (1 - d) 15 (bQ x y d i).1 (bQ x y d i).2)
theorem SR (hd:d=0\/d=1)(i:Nat):sW b (dR x y d wd) (Kr x y d wd i)=if(zR b x y d wd i).length=1 then none else some (zR b x y d wd i):=by
 unfold sW
 dsimp only
 rw[K4 x y d wd hd]
 rfl
theorem Np (dx dy:Int)(k:Nat)(x y:Int):(Cy b dx dy k x y).map (λq=>q.1)=nJ b dx dy k (x+dx) (y+dy):=by
 unfold Cy
 rw[LU]
 simp only[Int.neg_neg,Int.sub_neg]
theorem XU (i:Nat):(zR b x y d wd i).map (λq=>q.1)=(nJ b (-d) (-(1 - d)) 15 ((bQ x y d i).1 - d) ((bQ x y d i).2 - (1 - d))).reverse++[wd.getD i 0]++nJ b d (1 - d) 15 ((bQ x y d i).1+d) ((bQ x y d i).2+(1 - d)):=by
 unfold zR
 rw[cC,O3,LU,aJ,Np,pP]
 rfl
theorem CP (i:Nat):(zR b x y d wd i).length=1↔gZ b x y d wd i=[]:=by
 have e:=congrArg iI (XU b x y d wd i)
 rw[aA] at e
 rw[e]
 unfold gZ
 dsimp only
 generalize nJ b (-d) (-(1 - d)) 15 ((bQ x y d i).1 - d) ((bQ x y d i).2 - (1 - d))=bf
 generalize nJ b d (1 - d) 15 ((bQ x y d i).1+d) ((bQ x y d i).2+(1 - d))=bh
 cases bf <;> cases bh <;> simp <;> omega
theorem SS {i:Nat}(h:¬gZ b x y d wd i=[]):(zR b x y d wd i).map (λq=>q.1)=gZ b x y d wd i:=by
 rw[XU]
 unfold gZ at h ⊢
 dsimp only at h ⊢
 split
 ·rename_i h'
  rw[if_pos h'] at h
  exact absurd rfl h
 ·rfl
theorem wK (hd:d=0\/d=1):∀is:List Nat,((is.map (Kr x y d wd)).filterMap λq=>sW b (dR x y d wd) q).map (λl=>l.map λq=>q.1)=(is.map λi=>gZ b x y d wd i).filter λl=> !l.isEmpty
 | []=>rfl
 | i::is=>by
  rw[aJ,dM,SR b x y d wd hd,aJ,nQ]
  by_cases h:gZ b x y d wd i=[]
  ·rw[if_pos ((CP b x y d wd i).mpr h),h]
   simpa using wK hd is
  ·rw[if_neg (λz=>h ((CP b x y d wd i).mp z))]
   have he:(!(gZ b x y d wd i).isEmpty)=true:=by simp[h]
   rw[he]
   simp only[aJ,if_true]
   rw[SS b x y d wd h,wK hd is]
theorem ZX {i:Nat}(h0:under b x y d i=0)(h:¬gZ b x y d wd i=[]):(zV b (zR b x y d wd i):Int)=(dA (gZ b x y d wd i)+Cd x y d wd i) * C0 x y d i:=by
 unfold zV
 dsimp only
 rw[zG,XZ,QX]
 have hnew:(at_ b (Kr x y d wd i).2.1 (Kr x y d wd i).2.2==0)=true:=by
  show(under b x y d i==0)=true
  simp[h0]
 have hb1:∀q∈(xR b d (1 - d) 15 (bQ x y d i).1 (bQ x y d i).2).reverse,(at_ b q.2.1 q.2.2==0)=false:=λq hq=>by
  obtain⟨e1,e2⟩:=RA b d (1 - d) 15 _ _ q (jM.mp hq)
  rw[e1];simpa using e2
 have hb2:∀q∈Cy b d (1 - d) 15 (bQ x y d i).1 (bQ x y d i).2,(at_ b q.2.1 q.2.2==0)=false:=λq hq=>by
  obtain⟨e1,e2⟩:=RA b (-d) (-(1 - d)) 15 _ _ q hq
  rw[e1];simpa using e2
 congr 1
 ·rw[<-SS b x y d wd h]
  unfold dA zR
  rw[cC,aJ,cC,cC,aJ,aJ,UE,UE,dW,dW]
  have e1:∀l:List (Nat×Int×Int),(∀q∈l,(at_ b q.2.1 q.2.2==0)=false)->(l.map λq=>((cH q.1 * if(at_ b q.2.1 q.2.2==0)=true then cG q.2.1 q.2.2 else 1:Nat):Int))=(l.map λq=>q.1).map λc=>((cH c:Nat):Int):=by
   intro l hl
   rw[bR]
   apply dD
   intro q hq
   rw[hl q hq]
   simp
  rw[e1 _ hb1,e1 _ hb2,if_pos hnew]
  unfold Cd
  show _+(_+(((cH (wd.getD i 0) * cG (bQ x y d i).1 (bQ x y d i).2:Nat):Int)+_))=_+(((cH (wd.getD i 0):Nat):Int)+_)+_
  rw[zG,PF,PH,ZA ((cG (bQ x y d i).1 (bQ x y d i).2:Nat):Int)]
  omega
 ·unfold zR
  rw[cC,aJ,Wn,qZ,if_pos hnew]
  rw[WD _ _ (λq hq=>by rw[if_neg (by rw[hb1 q hq];exact bP)];rfl),WD _ _ (λq hq=>by rw[if_neg (by rw[hb2 q hq];exact bP)];rfl)]
  unfold C0
  simp
  rfl
theorem Cj (hd:d=0\/d=1):∀(is:List Nat),(∀i∈is,under b x y d i=0)->∀a:Nat,(((((is.map (Kr x y d wd)).filterMap λq=>sW b (dR x y d wd) q).map λl=>zV b l).foldl (·+ ·) a:Nat):Int)=a+(is.map λi=>CQ b x y d wd i).sum
 | [],_,a=>by simp
 | i::is,h,a=>by
  rw[aJ,dM,SR b x y d wd hd,aJ,dW]
  have ih:=Cj hd is (λj hj=>h j (aN _ hj))
  by_cases hc:gZ b x y d wd i=[]
  ·rw[if_pos ((CP b x y d wd i).mpr hc)]
   have e:CQ b x y d wd i=0:=by
    unfold CQ
    rw[hc];rfl
   rw[e]
   simpa using ih a
  ·rw[if_neg (λz=>hc ((CP b x y d wd i).mp z))]
   simp only[aJ,mD]
   rw[ih]
   have e:CQ b x y d wd i=(zV b (zR b x y d wd i):Int):=by
    unfold CQ
    rw[if_neg (by simpa using hc),ZX b x y d wd (h i (by simp)) hc]
   rw[e]
   omega
end
end My
namespace My
open Sz32 (at_ on)
theorem zO {x y:Int}:on x y=true↔0<=x/\x < 15/\0<=y/\y < 15:=by
 simp[kZ]
theorem Eg {x y d:Int}(hd:d=0\/d=1){n:Nat}(h0:on x y=true)(h1:on (bQ x y d ((n:Int) - 1)).1 (bQ x y d ((n:Int) - 1)).2=true):Fw x y d n:=by
 intro i hi
 rw[zO] at h0 h1
 unfold bQ at h1 ⊢
 rcases hd with rfl | rfl <;> simp at h1 ⊢ <;> omega
theorem Ki {α β:Type}(f:α->β)(p:β->Bool)(l:List α):(l.map f).all p=l.all λx=>p (f x):=by
 rw[uW];rfl
section
variable (s:pN)(x y d:Int)(wd rk:List Nat)
def rC:Int:=
 if lV s.board x y d wd=false then -2
 else if fG rk ((cE s.board x y d wd.length).map λi=>wd.getD i 0)=false then -3
 else if nY s.board x y d wd=false then -4
 else if(gS s wd&&(gG s.board x y d wd).all λl=>gS s l)=false then -5
 else Fm s.board x y d wd
theorem m4 (hd:d=0\/d=1)(h0:on x y=true):
  (wd.length < 2\/(((bA wd.length).map λ(i:Nat)=>(dR x y d wd).cell i).all λc=>on c.1 c.2)=false\/
   (at_ s.board ((dR x y d wd).cell (-1)).1 ((dR x y d wd).cell (-1)).2 != 0 || at_ s.board ((dR x y d wd).cell wd.length).1 ((dR x y d wd).cell wd.length).2 != 0)=true\/
   wO s.board (dR x y d wd)=[]\/
   ((bA wd.length).all λi=>at_ s.board ((dR x y d wd).cell i).1 ((dR x y d wd).cell i).2==0 || at_ s.board ((dR x y d wd).cell i).1 ((dR x y d wd).cell i).2==(dR x y d wd).word.getD i 0)=false)↔lV s.board x y d wd=false:=by
 rw[xP]
 simp only[CT]
 show(_\/_\/(under s.board x y d (-1) != 0 || under s.board x y d wd.length != 0)=true\/_\/((bA wd.length).all λi=>under s.board x y d i==0 || under s.board x y d i==wd.getD i 0)=false)↔_
 unfold lV
 have hall:2<=wd.length->((((bA wd.length).map λ(i:Nat)=>bQ x y d i).all λc=>on c.1 c.2)=true↔on (bQ x y d ((wd.length:Int) - 1)).1 (bQ x y d ((wd.length:Int) - 1)).2=true):=by
  intro hn
  rw[Ki,cN]
  constructor
  ·intro h
   have:=h (wd.length - 1) (bM.mpr (by omega))
   have e:(((wd.length - 1:Nat):Int))=(wd.length:Int) - 1:=by omega
   rw[e] at this
   exact this
  ·intro h i hi
   exact zO.mpr (Eg hd h0 h i (bM.mp hi))
 have hpl:(cE s.board x y d wd.length).map (Kr x y d wd)=[]↔¬0 < (cE s.board x y d wd.length).length:=by
  rw[RL,Nat.not_lt,Nat.le_zero,List.length_eq_zero_iff]
 rw[hpl]
 by_cases hn:wd.length < 2
 ·have:¬2<=wd.length:=by omega
  simp[hn,this]
 ·have hn':2<=wd.length:=by omega
  have ha:=hall hn'
  cases h1:(((bA wd.length).map λ(i:Nat)=>bQ x y d i).all λc=>on c.1 c.2)
  ·have h2:on (bQ x y d ((wd.length:Int) - 1)).1 (bQ x y d ((wd.length:Int) - 1)).2=false:=by
    cases h3:on (bQ x y d ((wd.length:Int) - 1)).1 (bQ x y d ((wd.length:Int) - 1)).2
    ·rfl
    ·rw[ha.mpr h3] at h1;cases h1
   simp[h2]
  ·have h2:=ha.mp h1
   rw[h2]
   cases h3:((bA wd.length).all λi=>under s.board x y d i==0 || under s.board x y d i==wd.getD i 0)
   ·simp
   ·by_cases h4:under s.board x y d (-1)=0 <;> by_cases h5:under s.board x y d wd.length=0 <;> by_cases h6:0 < (cE s.board x y d wd.length).length <;> simp[h4,h5,h6,hn,hn'] <;> omega
theorem Eb {b:List Nat}{i n:Nat}(h:i∈cE b x y d n):under b x y d i=0:=by
 unfold cE at h
 simpa using(bO.mp h).2
theorem Vq (hd:d=0\/d=1):(((s.board.all λc=>c==0)=true/\(((bA wd.length).map λ(i:Nat)=>(dR x y d wd).cell i).contains (7,7))=false)\/
   ((s.board.all λc=>c==0)=false/\(wO s.board (dR x y d wd)).length=wd.length/\((wO s.board (dR x y d wd)).filterMap λq=>sW s.board (dR x y d wd) q)=[]))↔nY s.board x y d wd=false:=by
 rw[xP]
 simp only[CT]
 unfold nY
 have hc:(((bA wd.length).map λ(i:Nat)=>bQ x y d i).contains (7,7))=zU x y d wd.length:=by
  unfold zU
  rw[cZ,aR,bE,jO]
  constructor
  ·rintro⟨i,hi,e⟩
   exact⟨i,hi,by rw[e];rfl⟩
  ·rintro⟨i,hi,e⟩
   simp only[bH,decide_eq_true_eq] at e
   exact⟨i,hi,W4 e.1 e.2⟩
 have hx:=wK s.board x y d wd hd (cE s.board x y d wd.length)
 have hx':(((cE s.board x y d wd.length).map (Kr x y d wd)).filterMap λq=>sW s.board (dR x y d wd) q)=[]↔gG s.board x y d wd=[]:=by
  unfold gG
  rw[<-hx,RL]
 rw[hc,hx',aA]
 have hle:=CA s.board x y d wd.length
 cases h1:(s.board.all λc=>c==0)
 ·simp only[eO,false_and,false_or,true_and,if_false,Bool.or_eq_false_iff,decide_eq_false_iff_not]
  constructor
  ·rintro⟨e1,e2⟩
   exact⟨by omega,by rw[e2];rfl⟩
  ·rintro⟨e1,e2⟩
   exact⟨by omega,by simpa using e2⟩
 ·simp
theorem OB (hd:d=0\/d=1)(h0:on x y=true):M8 s (dR x y d wd) rk=rC s x y d wd rk:=by
 unfold M8 rC
 have hf:=m4 s x y d wd hd h0
 have ht:=Vq s x y d wd hd
 have hx:=wK s.board x y d wd hd (cE s.board x y d wd.length)
 have hs:=Cj s.board x y d wd hd (cE s.board x y d wd.length) (λi hi=>Eb x y d hi) 0
 have hm:=Fl s.board x y d wd
 have e1:(wO s.board (dR x y d wd)).map (λq=>q.1)=(cE s.board x y d wd.length).map λi=>wd.getD i 0:=by
  rw[xP,bR];rfl
 have e2:(((wO s.board (dR x y d wd)).filterMap λq=>sW s.board (dR x y d wd) q).all λl=>gS s (l.map λq=>q.1))=(gG s.board x y d wd).all λl=>gS s l:=by
  unfold gG
  rw[<-hx,Ki,xP]
 have e3:(wO s.board (dR x y d wd)).length=(cE s.board x y d wd.length).length:=by rw[xP,aA]
 dsimp only
 have hw:(dR x y d wd).word=wd:=rfl
 simp only[hw] at hf hm ⊢
 simp only[hf,e1,ht,e2]
 by_cases c1:lV s.board x y d wd=false
 ·rw[if_pos c1,if_pos c1]
 rw[if_neg c1,if_neg c1]
 by_cases c2:fG rk ((cE s.board x y d wd.length).map λi=>wd.getD i 0)=false
 ·rw[if_pos c2,if_pos c2]
 rw[if_neg c2,if_neg c2]
 by_cases c3:nY s.board x y d wd=false
 ·rw[if_pos c3,if_pos c3]
 rw[if_neg c3,if_neg c3]
 by_cases c4:(gS s wd&&(gG s.board x y d wd).all λl=>gS s l)=false
 ·rw[if_pos c4,if_pos (MD.mp c4)]
 rw[if_neg c4,if_neg (λz=>c4 (MD.mpr z))]
 unfold Fm
 rw[<-hm,e3]
 rw[xP,X9,X9,hs]
 simp only[P9,Int.zero_add]
 congr 1
 split <;> rfl
end
def gT (s:pN)(x y d:Int)(wd rk:List Nat):Int:=if gQ x y d wd rk=false then -1 else rC s x y d wd rk
end My
namespace My
theorem Me {ns:List Int}{m:Nat}{w t:List Int}(h:RI (ns.drop m)=some (w,t)):∃k:Nat,vV ns m k/\w=rowOf ns m k/\t=ns.drop (m+1+k):=by
 unfold RI at h
 split at h
 ·cases h
 ·rename_i n r e
  split at h
  ·rename_i hn
   have h1:ns[m]? =some n:=by
    have:=congrArg (λl=>l[0]?) e
    simpa using this
   have h2:r=ns.drop (m+1):=by
    have:=congrArg List.tail e
    simpa using this.symm
   injection h with h
   injection h with h3 h4
   refine⟨n.toNat,⟨?_,?_⟩,?_,?_⟩
   ·rw[h1];congr 1;omega
   ·have h5:=hn.2
    rw[h2,qS] at h5
    have:m < ns.length:=(bL.mp h1).1
    omega
   ·rw[<-h3,h2];rfl
   ·rw[<-h4,h2,X6]
  ·cases h
theorem Tp {ns:List Int}{n:Nat}{p:Int}{r:List Int}(h:ns.drop n=p::r):ns.getD n 0=p/\n < ns.length/\r=ns.drop (n+1):=by
 have h1:ns[n]? =some p:=by
  have:=congrArg (λl=>l[0]?) h
  simpa using this
 refine⟨by rw[aF,h1];rfl,(bL.mp h1).1,?_⟩
 have:=congrArg List.tail h
 simpa using this.symm
inductive NextCall (ns:List Int)(n:Nat):List (List Int)->Nat->Prop
 | clear:ns.getD n 0=1->NextCall ns n [[1]] (n+1)
 | word (k:Nat):ns.getD n 0=2->vV ns (n+1) k->NextCall ns n [[2],rowOf ns (n+1) k] (n+1+1+k)
 | score (p:Int) (kw kr:Nat):ns.getD n 0=p->(p=3\/p=4)->n+1+3<=ns.length->vV ns (n+1+3) kw->vV ns (n+1+3+1+kw) kr->
   NextCall ns n [[p,ns.getD (n+1) 0,ns.getD (n+1+1) 0,ns.getD (n+1+2) 0],rowOf ns (n+1+3) kw,rowOf ns (n+1+3+1+kw) kr] (n+1+3+1+kw+1+kr)
 | best (k:Nat):ns.getD n 0=5->vV ns (n+1) k->NextCall ns n [[5],rowOf ns (n+1) k] (n+1+1+k)
 | board:ns.getD n 0=6->NextCall ns n [[6]] (n+1)
theorem y6 {l:List Int}{xs:List (List Int)}{t:List Int}(h:pR 1 l=some (xs,t)):∃w,RI l=some (w,t)/\xs=[w]:=by
 unfold pR at h
 split at h
 ·cases h
 ·rename_i x s e
  unfold pR at h
  simp at h
  exact⟨x,by rw[e,h.2],h.1.symm⟩
theorem Q6 {l:List Int}{xs:List (List Int)}{t:List Int}(h:pR 2 l=some (xs,t)):∃w s v,RI l=some (w,s)/\RI s=some (v,t)/\xs=[w,v]:=by
 unfold pR at h
 split at h
 ·cases h
 ·rename_i x s e
  split at h
  ·cases h
  ·rename_i ys u e2
   obtain⟨v,e3,rfl⟩:=y6 e2
   simp at h
   exact⟨x,s,v,e,by rw[e3,h.2],h.1.symm⟩
theorem So {ns:List Int}{n:Nat}{p:Int}{r:List Int}{c:List (List Int)}{t:List Int}(e:ns.drop n=p::r)(h:Z1 eM (p::r)=some (c,t)):∃m,NextCall ns n c m/\t=ns.drop m/\m<=ns.length:=by
 obtain⟨e1,e2,e3⟩:=Tp e
 unfold Z1 at h
 dsimp only at h
 have zero:∀{c:List (List Int)} {t:List Int},(if r.length < 0 then none else match pR 0 (r.drop 0) with | none=>none | some (xs,t)=>some ((p::r.take 0)::xs,t))=some (c,t)->c=[[p]]/\t=ns.drop (n+1):=by
  intro c t h
  simp[pR] at h
  exact⟨h.1.symm,by rw[<-h.2,e3]⟩
 have one:∀{c:List (List Int)} {t:List Int},(if r.length < 0 then none else match pR 1 (r.drop 0) with | none=>none | some (xs,t)=>some ((p::r.take 0)::xs,t))=some (c,t)->∃k,vV ns (n+1) k/\c=[[p],rowOf ns (n+1) k]/\t=ns.drop (n+1+1+k):=by
  intro c t h
  rw[if_neg (X2 _),X5] at h
  split at h
  ·cases h
  ·rename_i xs u e4
   obtain⟨w,e5,rfl⟩:=y6 e4
   rw[e3] at e5
   obtain⟨k,k1,k2,k3⟩:=Me e5
   simp at h
   exact⟨k,k1,by rw[<-h.1,k2],by rw[<-h.2,k3]⟩
 have two:∀{c:List (List Int)} {t:List Int},(if r.length < 3 then none else match pR 2 (r.drop 3) with | none=>none | some (xs,t)=>some ((p::r.take 3)::xs,t))=some (c,t)->∃kw kr,n+1+3<=ns.length/\vV ns (n+1+3) kw/\vV ns (n+1+3+1+kw) kr/\
   c=[[p,ns.getD (n+1) 0,ns.getD (n+1+1) 0,ns.getD (n+1+2) 0],rowOf ns (n+1+3) kw,rowOf ns (n+1+3+1+kw) kr]/\t=ns.drop (n+1+3+1+kw+1+kr):=by
  intro c t h
  by_cases h3:r.length < 3
  ·rw[if_pos h3] at h;cases h
  ·rw[if_neg h3] at h
   have hl:n+1+3<=ns.length:=by rw[e3,qS] at h3;omega
   split at h
   ·cases h
   ·rename_i xs u e4
    obtain⟨w,s,v,e5,e6,rfl⟩:=Q6 e4
    rw[e3,X6] at e5
    obtain⟨kw,k1,k2,k3⟩:=Me e5
    rw[k3] at e6
    obtain⟨kr,k4,k5,k6⟩:=Me e6
    have ht:r.take 3=[ns.getD (n+1) 0,ns.getD (n+1+1) 0,ns.getD (n+1+2) 0]:=by
     rw[e3]
     apply Ai
     ·simp;omega
     ·intro i h1 h2
      have:i=0\/i=1\/i=2:=by simp at h2;omega
      rcases this with rfl | rfl | rfl
      ·simp[aF,aE (show n+1 < ns.length by omega)]
      ·simp[aF,aE (show n+1+1 < ns.length by omega)]
      ·simp[aF,aE (show n+1+2 < ns.length by omega)]
    simp only[yD,Prod.mk.injEq] at h
    exact⟨kw,kr,hl,k1,k4,by rw[<-h.1,ht,k2,k5],by rw[<-h.2,k6]⟩
 by_cases h1:p=1
 ·rw[show eM p=some (0,0) by unfold eM;rw[if_pos h1]] at h
  obtain⟨a,b⟩:=zero h
  exact⟨n+1,by rw[a,h1];exact .clear (by rw[e1,h1]),b,e2⟩
 by_cases h2:p=2
 ·rw[show eM p=some (0,1) by unfold eM;rw[if_neg h1,if_pos h2]] at h
  obtain⟨k,a,b,c'⟩:=one h
  exact⟨_,by rw[b,h2];exact .word k (by rw[e1,h2]) a,c',a.2⟩
 by_cases h3:p=3
 ·rw[show eM p=some (3,2) by unfold eM;rw[if_neg h1,if_neg h2,if_pos h3]] at h
  obtain⟨kw,kr,a,b,c',d,f⟩:=two h
  exact⟨_,by rw[d];exact .score p kw kr e1 (.inl h3) a b c',f,c'.2⟩
 by_cases h4:p=4
 ·rw[show eM p=some (3,2) by unfold eM;rw[if_neg h1,if_neg h2,if_neg h3,if_pos h4]] at h
  obtain⟨kw,kr,a,b,c',d,f⟩:=two h
  exact⟨_,by rw[d];exact .score p kw kr e1 (.inr h4) a b c',f,c'.2⟩
 by_cases h5:p=5
 ·rw[show eM p=some (0,1) by unfold eM;rw[if_neg h1,if_neg h2,if_neg h3,if_neg h4,if_pos h5]] at h
  obtain⟨k,a,b,c'⟩:=one h
  exact⟨_,by rw[b,h5];exact .best k (by rw[e1,h5]) a,c',a.2⟩
 by_cases h6:p=6
 ·rw[show eM p=some (0,0) by unfold eM;rw[if_neg h1,if_neg h2,if_neg h3,if_neg h4,if_neg h5,if_pos h6]] at h
  obtain⟨a,b⟩:=zero h
  exact⟨n+1,by rw[a,h6];exact .board (by rw[e1,h6]),b,e2⟩
 ·rw[show eM p=none by unfold eM;rw[if_neg h1,if_neg h2,if_neg h3,if_neg h4,if_neg h5,if_neg h6]] at h
  cases h
end My
namespace My
open Sz32 (St)
def Ro (w:List Int):Prop:=∀z∈w,0<=z/\z<=255
def hZ (w:List Int):List Nat:=w.map P8
theorem xN {w:List Int}(h:Ro w):Sz32.nats (dY w)=hZ w:=by
 unfold Sz32.nats dY hZ
 rw[bR]
 apply dD
 intro z hz
 have:=h z hz
 show(Uz z.toNat).toNat=z.toNat
 rw[SY]
 omega
theorem Pq (w:List Int):(dY w).length=w.length:=aA _
theorem mG (w:List Int):(hZ w).length=w.length:=aA _
theorem Sd (s:St){w:List Int}(h:Ro w)(hl:w.length<=15):dC s (eU [[2],w])=
  if(hZ w).length < 2\/(hZ w).all bI=false then(s,[-1]) else if s.words.contains ((hZ w).map aQ)=true then(s,[0]) else if 4096<=s.words.length then(s,[-2]) else({ s with words:=(hZ w).map aQ::s.words },[1]):=by
 show(let y:=tL s (.word (dY w) (w.length:Int));(y.1,y.2.value::(y.2.numbers++y.2.bytes.map λ(b:UInt8)=>(b.toNat:Int))))=_
 unfold tL
 dsimp only
 rw[xN h]
 have e:((w.length:Int) < 2\/15 < (w.length:Int)\/((hZ w).all λc=>bI c)=false)↔((hZ w).length < 2\/(hZ w).all bI=false):=by
  rw[mG]
  constructor
  ·rintro(a | a | a)
   ·exact .inl (by omega)
   ·omega
   ·exact .inr a
  ·rintro(a | a)
   ·exact .inl (by omega)
   ·exact .inr (.inr a)
 by_cases c1:(hZ w).length < 2\/(hZ w).all bI=false
 ·rw[if_pos c1,if_pos (e.mpr c1)];rfl
 ·rw[if_neg c1,if_neg (λz=>c1 (e.mp z))]
  by_cases c2:s.words.contains ((hZ w).map aQ)=true
  ·rw[if_pos c2,if_pos c2];rfl
  ·rw[if_neg c2,if_neg c2]
   by_cases c3:4096<=s.words.length
   ·rw[if_pos c3,if_pos c3];rfl
   ·rw[if_neg c3,if_neg c3];rfl
theorem Ou (x y d:Int){w rk:List Int}(h:Ro w)(hk:Ro rk):Sz32.told x y d (dY w) (w.length:Int) (dY rk) (rk.length:Int)=if gQ x y d (hZ w) (hZ rk)=false then none else some (dR x y d (hZ w)):=by
 unfold Sz32.told
 rw[xN h]
 have hr:BI (dY rk)=nD ((hZ rk).map cF):=by
  unfold BI
  rw[xN hk,Pq]
  unfold nD
  rw[aA,mG,uW]
  congr 1
  apply cZ.mpr
  rw[cN,cN]
  have e:∀c:Nat,((λb=>mT b || decide (b=63)) ∘ cF) c=(c==63 || (decide (65<=c)&&decide (c<=90))):=λc=>by
   show(mT (c:Int) || decide ((c:Int)=63))=_
   unfold mT
   rw[cZ]
   simp only[dP,bH,decide_eq_true_eq,beq_iff_eq]
   omega
  exact⟨λh c hc=>by rw[e];exact h c hc,λh c hc=>by rw[<-e];exact h c hc⟩
 have e:(x < 0\/14 < x\/y < 0\/14 < y\/d < 0\/1 < d\/(w.length:Int) < 1\/15 < (w.length:Int)\/(rk.length:Int) < 0\/7 < (rk.length:Int)\/BI (dY rk)=false\/((hZ w).all bI)=false)↔gQ x y d (hZ w) (hZ rk)=false:=by
  rw[hr]
  unfold gQ
  rw[CV,mG]
  have hrl:nD ((hZ rk).map cF)=true->rk.length<=7:=by
   intro z
   unfold nD at z
   simp only[bH,decide_eq_true_eq,aA,mG] at z
   exact z.1
  cases h1:nD ((hZ rk).map cF)
  ·simp
  ·have:=hrl h1
   cases h2:(hZ w).all bI
   ·simp
   ·unfold kZ
    rw[<-Bool.not_eq_true]
    simp only[Bool.and_true,bH,dP,decide_eq_true_eq]
    simp
    omega
 by_cases c:gQ x y d (hZ w) (hZ rk)=false
 ·rw[if_pos c,if_pos (e.mpr c)]
 ·rw[if_neg c,if_neg (λz=>c (e.mp z))];rfl
theorem Bg {x y d:Int}{wd rk:List Nat}(h:¬gQ x y d wd rk=false):kZ x y=true/\(d=0\/d=1):=by
 have h':gQ x y d wd rk=true:=by
  cases e:gQ x y d wd rk
  ·exact absurd e h
  ·rfl
 unfold gQ at h'
 simp only[bH] at h'
 exact⟨h'.1.1.1.1.1,by simpa using h'.1.1.1.1.2⟩
theorem Lw (s:St)(x y d:Int){w rk:List Int}(h:Ro w)(hk:Ro rk):dC s (eU [[3,x,y,d],w,rk])=(s,[gT s x y d (hZ w) (hZ rk)]):=by
 show(let y':=tL s (.score x y d (dY w) (w.length:Int) (dY rk) (rk.length:Int));(y'.1,y'.2.value::(y'.2.numbers++y'.2.bytes.map λ(b:UInt8)=>(b.toNat:Int))))=_
 unfold tL
 dsimp only
 rw[Ou x y d h hk,xN hk]
 unfold gT
 by_cases c:gQ x y d (hZ w) (hZ rk)=false
 ·rw[if_pos c,if_pos c];rfl
 ·rw[if_neg c,if_neg c]
  obtain⟨h1,h2⟩:=Bg c
  show(s,[M8 s (dR x y d (hZ w)) (hZ rk)])=_
  rw[OB s x y d (hZ w) (hZ rk) h2 h1]
theorem Se (s:St)(x y d:Int){w rk:List Int}(h:Ro w)(hk:Ro rk):dC s (eU [[4,x,y,d],w,rk])=
  (if gT s x y d (hZ w) (hZ rk) < 0 then s else { s with board:=Yu s.board (dR x y d (hZ w)) },[gT s x y d (hZ w) (hZ rk)]):=by
 show(let y':=tL s (.play x y d (dY w) (w.length:Int) (dY rk) (rk.length:Int));(y'.1,y'.2.value::(y'.2.numbers++y'.2.bytes.map λ(b:UInt8)=>(b.toNat:Int))))=_
 unfold tL
 dsimp only
 rw[Ou x y d h hk,xN hk]
 unfold gT
 by_cases c:gQ x y d (hZ w) (hZ rk)=false
 ·rw[if_pos c,if_pos c];rfl
 ·rw[if_neg c,if_neg c]
  obtain⟨h1,h2⟩:=Bg c
  dsimp only
  rw[OB s x y d (hZ w) (hZ rk) h2 h1]
  rfl
end My
namespace My
open Sz32 (St)
theorem Lx (s:St)(hb:BM s.board):dC s (eU [[6]])=(s,0::s.board.map sq):=by
 show(let y':=tL s .board;(y'.1,y'.2.value::(y'.2.numbers++y'.2.bytes.map λ(b:UInt8)=>(b.toNat:Int))))=_
 unfold tL IT
 dsimp only
 rw[Fz,bR,bR]
 congr 2
 apply dD
 intro c hc
 show(((Uz (if c=0 then 46 else c)).toNat:Nat):Int)=sq c
 unfold sq
 have h:=hb.let_ c hc
 rw[SY]
 by_cases h0:c=0
 ·simp[h0]
 ·have h1:=h.resolve_left h0
  rw[gR] at h1
  rw[if_neg h0,if_neg h0]
  omega
theorem Ni {ns:List Int}{f n:Nat}{cs:List (List (List Int))}(h:pX eM f (ns.drop n)=some cs)(hn:n < ns.length):∃c cs' m f',cs=c::cs'/\NextCall ns n c m/\m<=ns.length/\pX eM f' (ns.drop m)=some cs':=by
 obtain⟨p,r,e⟩:∃p r,ns.drop n=p::r:=by
  cases e:ns.drop n with
  | nil=>rw[xV] at e;omega
  | cons p r=>exact⟨p,r,rfl⟩
 rw[e] at h
 cases f with
 | zero=>simp[pX] at h
 | succ f=>
  unfold pX at h
  split at h
  ·cases h
  ·rename_i c t ec
   split at h
   ·cases h
   ·rename_i cs' ec2
    obtain⟨m,k1,k2,k3⟩:=So e ec
    injection h with h
    exact⟨c,cs',m,f,h.symm,k1,k3,by rw[<-k2];exact ec2⟩
theorem Tz {ns:List Int}{f n:Nat}{cs:List (List (List Int))}(h:pX eM f (ns.drop n)=some cs)(hn:¬n < ns.length):cs=[]:=by
 rw[xV.mpr (by omega)] at h
 unfold pX at h
 injection h with h
 exact h.symm
theorem CN {lo hi:Int}{least most:Nat}{r:List Int}{rs:List (List Int)}{b:List (Int×Int×Nat×Nat)}(h:mP ((lo,hi,least,most)::b) (r::rs)=true):(∀z∈r,lo<=z/\z<=hi)/\r.length<=most/\mP b rs=true:=by
 unfold mP at h
 simp only[bH,decide_eq_true_eq] at h
 obtain⟨⟨⟨_,h2⟩,h3⟩,h4⟩:=h
 refine⟨λz hz=> ?_,h2,h4⟩
 have:=cN.mp h3 z hz
 unfold PyInside.within at this
 simpa using this
theorem Jh {w:List Int}(h:qQ gW [[2],w]=true):Ro w/\w.length<=15:=by
 have h':(Fv (gW 2).1 []&&mP (gW 2).2 [w])=true:=h
 rw[bH] at h'
 obtain⟨a,b,_⟩:=CN (show mP [(0,255,0,15)] [w]=true from h'.2)
 exact⟨a,b⟩
theorem Ji {w:List Int}(h:qQ gW [[5],w]=true):Ro w/\w.length<=7:=by
 have h':(Fv (gW 5).1 []&&mP (gW 5).2 [w])=true:=h
 rw[bH] at h'
 obtain⟨a,b,_⟩:=CN (show mP [(0,255,0,7)] [w]=true from h'.2)
 exact⟨a,b⟩
theorem OD {p x y d:Int}{w rk:List Int}(hp:p=3\/p=4)(h:qQ gW [[p,x,y,d],w,rk]=true):Ro w/\w.length<=15/\Ro rk/\rk.length<=7:=by
 have hb:(gW p).2=[(0,255,0,15),(0,255,0,7)]:=by rcases hp with rfl | rfl <;> rfl
 have h':(Fv (gW p).1 [x,y,d]&&mP (gW p).2 [w,rk])=true:=h
 rw[bH,hb] at h'
 obtain⟨a,b,c⟩:=CN h'.2
 obtain⟨a2,b2,_⟩:=CN c
 exact⟨a,b,a2,b2⟩
theorem Yq {ns:List Int}(h:LW ns=true):∃raw,pX eM ns.length ns=some raw/\raw.length<=400/\(∀c∈raw,qQ gW c=true)/\
  uA ns=LY (Kl dC ME (raw.map eU))/\(uA ns).length<=10000000:=by
 unfold LW at h
 split at h
 ·cases h
 ·rename_i raw e
  simp only[bH] at h
  obtain⟨⟨⟨⟨h1,h2⟩,h3⟩,h4⟩,h5⟩:=h
  refine⟨raw,e,of_decide_eq_true h2,λc hc=>cN.mp h3 c hc,?_,of_decide_eq_true h5⟩
  ·unfold uA PySz32.calls
   rw[e]
theorem Ry (a:List Int)(l:List (List Int)):LY (a::l)=(a.length:Int)::a++LY l:=by
 unfold LY
 rw[pO]
end My
namespace My
open Sz32 (St Play letters sooner laid)
theorem Qc:∀a:List Nat,letters a a=false
 | []=>rfl
 | x::a=>by simp[letters,Qc a]
theorem QM:∀{a b c:List Nat},letters a b=true->letters b c=true->letters a c=true
 | [],[],_,h,_=>by simp[letters] at h
 | [],_::_,[],_,h=>by simp[letters] at h
 | [],_::_,_::_,_,_=>rfl
 | _::_,[],_,h,_=>by simp[letters] at h
 | _::_,_::_,[],_,h=>by simp[letters] at h
 | x::a,y::b,z::c,h1,h2=>by
  simp only[letters,dP,bH,decide_eq_true_eq,beq_iff_eq] at h1 h2 ⊢
  rcases h1 with h1 | ⟨h1,h1'⟩ <;> rcases h2 with h2 | ⟨h2,h2'⟩
  ·exact .inl (by omega)
  ·exact .inl (by omega)
  ·exact .inl (by omega)
  ·exact .inr ⟨by omega,QM h1' h2'⟩
theorem Qb:∀(a b:List Nat),a=b\/letters a b=true\/letters b a=true
 | [],[]=>.inl rfl
 | [],_::_=>.inr (.inl rfl)
 | _::_,[]=>.inr (.inr rfl)
 | x::a,y::b=>by
  simp only[letters,dP,bH,decide_eq_true_eq,beq_iff_eq]
  rcases Nat.lt_trichotomy x y with h | h | h
  ·exact .inr (.inl (.inl h))
  ·subst h
   rcases Qb a b with h | h | h
   ·exact .inl (by rw[h])
   ·exact .inr (.inl (.inr ⟨rfl,h⟩))
   ·exact .inr (.inr (.inr ⟨rfl,h⟩))
  ·exact .inr (.inr (.inl h))
theorem Wb (p:Play):sooner p p=false:=by
 unfold OR
 simp[Qc]
theorem Wa (p q:Play):p=q\/sooner p q=true\/sooner q p=true:=by
 obtain⟨px,py,pd,pw⟩:=p
 obtain⟨qx,qy,qd,qw⟩:=q
 unfold OR
 by_cases h1:pd=qd
 ·subst h1
  by_cases h2:py=qy
  ·subst h2
   by_cases h3:px=qx
   ·subst h3
    rcases Qb pw qw with h | h | h
    ·exact .inl (by rw[h])
    ·exact .inr (.inl (by simpa using h))
    ·exact .inr (.inr (by simpa using h))
   ·have h3':¬qx=px:=λz=>h3 z.symm
    simp[h3,h3']
    omega
  ·have h2':¬qy=py:=λz=>h2 z.symm
   simp[h2,h2']
   omega
 ·have h1':¬qd=pd:=λz=>h1 z.symm
  cases pd <;> cases qd <;> simp at h1 h1' ⊢
theorem Ma {p q r:Play}(h1:sooner p q=true)(h2:sooner q r=true):sooner p r=true:=by
 obtain⟨px,py,pd,pw⟩:=p
 obtain⟨qx,qy,qd,qw⟩:=q
 obtain⟨rx,ry,rd,rw'⟩:=r
 unfold OR at h1 h2 ⊢
 dsimp only at h1 h2 ⊢
 by_cases a1:pd=qd
 ·subst a1
  by_cases a2:pd=rd
  ·subst a2
   simp only[ne_eq,not_true_eq_false,if_false] at h1 h2 ⊢
   by_cases b1:py=qy
   ·subst b1
    by_cases b2:py=ry
    ·subst b2
     simp only[not_true_eq_false,if_false] at h1 h2 ⊢
     by_cases c1:px=qx
     ·subst c1
      by_cases c2:px=rx
      ·subst c2
       simp only[not_true_eq_false,if_false] at h1 h2 ⊢
       exact QM h1 h2
      ·simp only[c2,not_false_eq_true,if_true] at h2 ⊢
       exact h2
     ·simp only[c1,not_false_eq_true,if_true,decide_eq_true_eq] at h1
      by_cases c2:qx=rx
      ·subst c2
       simp only[c1,not_false_eq_true,if_true,decide_eq_true_eq]
       exact h1
      ·simp only[c2,not_false_eq_true,if_true,decide_eq_true_eq] at h2
       have:¬px=rx:=by omega
       simp only[this,not_false_eq_true,if_true,decide_eq_true_eq]
       omega
    ·simp only[b2,not_false_eq_true,if_true] at h2 ⊢
     exact h2
   ·simp only[b1,not_false_eq_true,if_true,decide_eq_true_eq] at h1
    by_cases b2:qy=ry
    ·subst b2
     simp only[b1,not_false_eq_true,if_true,decide_eq_true_eq]
     exact h1
    ·simp only[b2,not_false_eq_true,if_true,decide_eq_true_eq] at h2
     have:¬py=ry:=by omega
     simp only[this,not_false_eq_true,if_true,decide_eq_true_eq]
     omega
  ·simp only[ne_eq,a2,not_false_eq_true,if_true] at h2 ⊢
   exact h2
 ·simp only[ne_eq,a1,not_false_eq_true,if_true] at h1
  by_cases a2:qd=rd
  ·subst a2
   simp only[ne_eq,a1,not_false_eq_true,if_true]
   exact h1
  ·cases pd <;> cases qd <;> cases rd <;> simp at a1 a2 h1 h2 ⊢
def vS (s:St)(rk:List Nat)(p q:Play):Prop:=laid s q rk < laid s p rk\/(laid s q rk=laid s p rk/\sooner p q=true)
theorem Nm {s:St}{rk:List Nat}{p:Play}(h:vS s rk p p):False:=by
 rcases h with h | ⟨_,h⟩
 ·omega
 ·rw[Wb] at h;cases h
theorem CU {s:St}{rk:List Nat}{p q r:Play}(h1:vS s rk p q)(h2:vS s rk q r):vS s rk p r:=by
 rcases h1 with h1 | ⟨h1,h1'⟩ <;> rcases h2 with h2 | ⟨h2,h2'⟩
 ·exact .inl (by omega)
 ·exact .inl (by omega)
 ·exact .inl (by omega)
 ·exact .inr ⟨by omega,Ma h1' h2'⟩
theorem YE (s:St)(rk:List Nat)(p q:Play):p=q\/vS s rk p q\/vS s rk q p:=by
 rcases Int.lt_trichotomy (laid s p rk) (laid s q rk) with h | h | h
 ·exact .inr (.inr (.inl h))
 ·rcases Wa p q with e | e | e
  ·exact .inl e
  ·exact .inr (.inl (.inr ⟨h.symm,e⟩))
  ·exact .inr (.inr (.inr ⟨h,e⟩))
 ·exact .inr (.inl (.inl h))
def HK (s:St)(rk:List Nat)(L:List Play)(p:Play):Prop:=p∈L/\0<=laid s p rk/\∀q∈L,0<=laid s q rk->q=p\/vS s rk p q
theorem Nn {s:St}{rk:List Nat}{L M:List Play}{p q:Play}(hp:HK s rk L p)(hq:HK s rk M q)(h1:p∈M)(h2:q∈L):p=q:=by
 rcases hq.2.2 p h1 hp.2.1 with e | e
 ·exact e
 ·rcases hp.2.2 q h2 hq.2.1 with e' | e'
  ·exact e'.symm
  ·exact(Nm (CU e e')).elim
def E1 (s:St)(rk:List Nat)(b:Option Play)(q:Play):Option Play:=
 if laid s q rk < 0 then b else match b with
  | none=>some q
  | some p=>if laid s p rk < laid s q rk\/(laid s p rk=laid s q rk/\sooner q p=true) then some q else some p
theorem Ud (s:St)(rk:List Nat):wQ s rk=(kL s rk).foldl (E1 s rk) none:=by
 unfold wQ
 generalize kL s rk=L
 rfl
theorem Bk (s:St)(rk:List Nat):∀(L M:List Play) (b:Option Play),(match b with | none=>∀q∈M,laid s q rk < 0 | some p=>HK s rk M p)->
  (match L.foldl (E1 s rk) b with | none=>∀q∈M++L,laid s q rk < 0 | some p=>HK s rk (M++L) p)
 | [],M,b,h=>by simpa using h
 | x::L,M,b,h=>by
  rw[mD,show M++x::L=(M++[x])++L by simp]
  apply Bk s rk L (M++[x])
  unfold E1
  by_cases hx:laid s x rk < 0
  ·rw[if_pos hx]
   cases b with
   | none=>
    intro q hq
    rcases cW.mp hq with hq | hq
    ·exact h q hq
    ·rw[cP.mp hq];exact hx
   | some p=>
    refine⟨iG _ h.1,h.2.1,λq hq h0=> ?_⟩
    rcases cW.mp hq with hq | hq
    ·exact h.2.2 q hq h0
    ·rw[cP.mp hq] at h0;omega
  ·rw[if_neg hx]
   cases b with
   | none=>
    refine⟨by simp,by omega,λq hq h0=> ?_⟩
    rcases cW.mp hq with hq | hq
    ·have:=h q hq;omega
    ·exact .inl (cP.mp hq)
   | some p=>
    dsimp only
    by_cases c:laid s p rk < laid s x rk\/(laid s p rk=laid s x rk/\sooner x p=true)
    ·rw[if_pos c]
     refine⟨by simp,by omega,λq hq h0=> ?_⟩
     rcases cW.mp hq with hq | hq
     ·rcases h.2.2 q hq h0 with e | e
      ·subst e;exact .inr c
      ·exact .inr (CU c e)
     ·exact .inl (cP.mp hq)
    ·rw[if_neg c]
     refine⟨iG _ h.1,h.2.1,λq hq h0=> ?_⟩
     rcases cW.mp hq with hq | hq
     ·exact h.2.2 q hq h0
     ·rw[cP.mp hq]
      rcases YE s rk p x with e | e | e
      ·exact .inl e.symm
      ·exact .inr e
      ·exact absurd e c
def w8 (s:St)(rk:List Nat)(L:List Play):Option Play->Prop
 | none=>∀q∈L,laid s q rk < 0
 | some p=>HK s rk L p
theorem Fs {s:St}{rk:List Nat}{o:Option Play}(h:wQ s rk=o):w8 s rk (kL s rk) o:=by
 rw[Ud] at h
 generalize kL s rk=L at h ⊢
 have e:=Bk s rk L [] none (λq hq=>by simp at hq)
 rw[h,Fz] at e
 cases o <;> exact e
end My
namespace My
open Sz32 (St Play)
theorem WU {α β:Type}{f:α->β}{l:List α}(h:∀i∈l,∀j∈l,f i=f j->i=j)(nd:l.Nodup):(l.map f).Nodup:=by
 unfold List.Nodup at nd ⊢
 rw[uS]
 exact nd.imp_of_mem λha hb n e=>n (h _ ha _ hb e)
def oP (ix v:Nat->Nat)(b:List Nat)(l:List Nat):List Nat:=l.foldl (λb i=>b.set (ix i) (v i)) b
theorem JH (ix v:Nat->Nat)(p:Nat->Bool):∀(l:List Nat) (b:List Nat),(l.map ix).Nodup->(∀i∈l,p i=false->b[ix i]? =some (v i))->oP ix v b l=oP ix v b (l.filter p)
 | [],b,_,_=>rfl
 | i::l,b,nd,h=>by
  rw[aJ,dU] at nd
  have hne:∀j∈l,ix j≠ix i:=λj hj z=>nd.1 (z ▸ Zn hj)
  have step:∀b',(∀j∈l,b'[ix j]? =b[ix j]?)->oP ix v b' l=oP ix v b' (l.filter p):=λb' hb=>JH ix v p l b' nd.2 λj hj hp=>by rw[hb j hj];exact h j (aN _ hj) hp
  rw[nQ]
  show oP ix v (b.set (ix i) (v i)) l=_
  cases hp:p i with
  | true=>
   rw[if_pos rfl]
   show _=oP ix v (b.set (ix i) (v i)) (l.filter p)
   exact step _ λj hj=>mM (fE (hne j hj))
  | false=>
   rw[if_neg (by simp)]
   have e:b.set (ix i) (v i)=b:=by
    have q:=h i (aT ..) hp
    obtain⟨hl,hv⟩:=bL.mp q
    rw[<-hv]
    exact List.set_getElem_self hl
   rw[e]
   exact step b λj _=>rfl
theorem VL (ix v:Nat->Nat):∀(l:List Nat) (b:List Nat),(oP ix v b l).length=b.length
 | [],_=>rfl
 | i::l,b=>by
  show(oP ix v (b.set (ix i) (v i)) l).length=_
  rw[VL ix v l,dO]
theorem VJ (ix v:Nat->Nat):∀(l:List Nat) (b:List Nat),∀c∈oP ix v b l,c∈b\/∃i∈l,c=v i
 | [],_,c,h=>.inl h
 | i::l,b,c,h=>by
  rcases VJ ix v l (b.set (ix i) (v i)) c h with h | ⟨j,hj,e⟩
  ·rcases Kx h with h | h
   ·exact .inl h
   ·exact .inr ⟨i,aT ..,h⟩
  ·exact .inr ⟨j,aN _ hj,e⟩
def Zj (x y d:Int)(i:Nat):Nat:=((bQ x y d i).1+15 * (bQ x y d i).2).toNat
theorem D7 {b:List Nat}(hb:BM b){x y d:Int}{wd:List Nat}(hd:d=0\/d=1)(hon:Fw x y d wd.length)(ha:∀i,i < wd.length->under b x y d i=0\/under b x y d i=wd.getD i 0):
  Yu b (dR x y d wd)=oP (Zj x y d) (λi=>wd.getD i 0) b (bA wd.length):=by
 unfold Yu
 rw[xP,X4]
 show oP (Zj x y d) (λi=>wd.getD i 0) b (cE b x y d wd.length)=_
 refine(JH (Zj x y d) (λi=>wd.getD i 0) (λi=>under b x y d i==0) (bA wd.length) b ?_ λi hi hp=> ?_).symm
 ·refine WU (λi hi j hj e=> ?_) wU
  have h1:=hon i (bM.mp hi)
  have h2:=hon j (bM.mp hj)
  unfold Zj at e
  unfold bQ at e h1 h2
  rcases hd with rfl | rfl
  ·simp at e h1 h2;omega
  ·simp at e h1 h2;omega
 ·have hlt:=bM.mp hi
  have h1:=hon i hlt
  have hu:under b x y d i=wd.getD i 0:=(ha i hlt).resolve_left (by simpa using hp)
  unfold under aH at hu
  rw[if_pos h1] at hu
  have hl:Zj x y d i < b.length:=by
   rw[hb.len]
   unfold Zj
   omega
  rw[aE hl]
  have e2:b.getD (Zj x y d i) 0=wd.getD i 0:=hu
  rw[aF,aE hl] at e2
  exact congrArg some e2
end My
namespace L2
open PySem PySem.Spec PyProof.Rows
abbrev mX:=Sum Int Str
def OC:mX->aC->Bool
 | .inl k,v=>dk k v
 | .inr x,v=>V9 x v
def bz (w:cY):mX->Int
 | .inl k=>hashInt k
 | .inr x=>hashStr w x
theorem kD:∀{k:mX} {v:aC},OC k v=true->(∃i t,k=eI i/\v=pB i t)\/(∃x t,k=YX x/\v=OT x t)
 | .inl i,v,h=>by
  obtain⟨t,e⟩:=Value.isInt_shape (k:=i) (v:=v) h
  exact .inl ⟨i,t,rfl,e⟩
 | .inr x,v,h=>by
  obtain⟨t,e⟩:=Value.isStrOf_shape (x:=x) (v:=v) h
  exact .inr ⟨x,t,rfl,e⟩
theorem Tf (i:Int)(t:Tok):OC (.inl i) (.int i t)=true:=by simp[OC,dk]
theorem Te (x:Str)(t:Tok):OC (.inr x) (.str x t)=true:=by simp[OC,V9]
theorem G8 (a b:Int):decide ((eI a:mX)=eI b)=(a==b):=by
 by_cases e:a=b
 ·subst e;simp
 ·have h:¬(eI a:mX)=eI b:=λq=>e (YM q)
  rw[decide_eq_false h]
  exact(beq_eq_false_iff_ne.mpr e).symm
theorem F9 (a b:Str):decide ((YX a:mX)=YX b)=decide (a=b):=by
 by_cases e:a=b
 ·subst e;simp
 ·have h:¬(YX a:mX)=YX b:=λq=>e (Sum.inr.inj q)
  rw[decide_eq_false h,decide_eq_false e]
theorem G7 (a:Int)(b:Str):decide ((eI a:mX)=YX b)=false:=decide_eq_false (λq=>nomatch q)
theorem G6 (a:Str)(b:Int):decide ((YX a:mX)=eI b)=false:=decide_eq_false (λq=>nomatch q)
def iD (prog:bS)(w:cY):PySem.KeyKind prog w mX where
 is:=OC
 hash:=bz w
 inj:=λv a b ha hb=>by
  rcases kD ha with⟨i,t,rfl,rfl⟩ | ⟨x,t,rfl,rfl⟩
  ·rcases kD hb with⟨j,u,rfl,e⟩ | ⟨y,u,rfl,e⟩
   ·injection e with e1 _;rw[e1]
   ·exact nomatch e
  ·rcases kD hb with⟨j,u,rfl,e⟩ | ⟨y,u,rfl,e⟩
   ·exact nomatch e
   ·injection e with e1 _;rw[e1]
 byValue:=λk v h=>by
  rcases kD h with⟨i,t,rfl,rfl⟩ | ⟨x,t,rfl,rfl⟩ <;> rfl
 pyHash:=λhv h=>by
  rcases kD hv with⟨i,t,rfl,rfl⟩ | ⟨x,t,rfl,rfl⟩
  ·exact wpAny_pyHash_int h
  ·exact wpAny_pyHash_str h
 eqBool:=λhu hv h=>by
  rcases kD hu with⟨i,t,rfl,rfl⟩ | ⟨x,t,rfl,rfl⟩
  ·rcases kD hv with⟨j,u,rfl,rfl⟩ | ⟨y,u,rfl,rfl⟩
   ·rw[G8] at h;exact wpAny_eqBool_int h
   ·rw[G7] at h;exact Nw i t y u _ _ _ _ h
  ·rcases kD hv with⟨j,u,rfl,rfl⟩ | ⟨y,u,rfl,rfl⟩
   ·rw[G6] at h;exact Nv x t j u _ _ _ _ h
   ·rw[F9] at h;exact wpAny_eqBool_str h
 «strs»:=λk x t v h=>by
  rcases kD h with⟨i,u,rfl,e⟩ | ⟨y,u,rfl,e⟩
  ·exact nomatch e
  ·injection e with e1 _
   subst e1
   cases v <;> rfl
theorem SG (prog:bS)(w:cY)(i:Int)(t:Tok):(iD prog w).is (.inl i) (.int i t)=true:=Tf i t
theorem Jb (prog:bS)(w:cY)(x:Str)(t:Tok):(iD prog w).is (.inr x) (.str x t)=true:=Te x t
end L2
namespace L2
open PySem PySem.Spec PyProof.Rows
inductive V where
 | non | bl (b:Bool) | int (i:Int) | str (x:Str) | byt (b:Array UInt8) | flt (b:UInt64) | ref (a:Addr) | ty (n:String)
 deriving DecidableEq
def RelV:V->aC->Prop
 | .non,u=>u=oI
 | .bl b,u=>u=vY b
 | .int i,u=>∃t,u=pB i t
 | .str x,u=>∃t,u=OT x t
 | .byt b,u=>∃t,u=dq b t
 | .flt b,u=>∃t,u=dn b t
 | .ref a,u=>u=dQ a
 | .ty n,u=>u=oH n
def Y3:Option (Option V)->(V->Prop)->Prop
 | some (some v),k=>k v
 | _,_=>False
def A3:V->(Int->Prop)->Prop
 | .int i,k=>k i
 | _,_=>False
def Nt:V->(Bool->Prop)->Prop
 | .bl i,k=>k i
 | _,_=>False
def p0:V->(Addr->Prop)->Prop
 | .ref i,k=>k i
 | _,_=>False
theorem V6 {k:V->Prop}:∀{x:Option (Option V)},Y3 x k->∃v,x=some (some v)/\k v
 | some (some v),h=>⟨v,rfl,h⟩
theorem YG {x:V}{k:Int->Prop}(h:A3 x k):∃v,x=.int v/\k v:=by cases x <;> first | exact⟨_,rfl,h⟩ | exact fS h
theorem OO {x:V}{k:Bool->Prop}(h:Nt x k):∃v,x=.bl v/\k v:=by cases x <;> first | exact⟨_,rfl,h⟩ | exact fS h
theorem Ra {x:V}{k:Addr->Prop}(h:p0 x k):∃v,x=.ref v/\k v:=by cases x <;> first | exact⟨_,rfl,h⟩ | exact fS h
abbrev eG:List V->List aC->Prop:=Paired RelV
theorem eG.length {xs:List V}{us:List aC}(r:eG xs us):xs.length=us.length:=Paired.length r
theorem eG.get:∀{xs:List V} {us:List aC} {i:Nat} {x:V},eG xs us->xs[i]? =some x->∃u,us[i]? =some u/\RelV x u
 | _,_,_,_,.nil,e=>by simp at e
 | _,_,0,_,.cons r _,e=>by simp at e;subst e;exact⟨_,rfl,r⟩
 | _,_,i+1,x,.cons _ t,e=>by
  obtain⟨u,h1,h2⟩:=eG.get (i:=i) (x:=x) t (by simpa using e)
  exact⟨u,by simpa using h1,h2⟩
theorem eG.set {x:V}{u:aC}(r:RelV x u):∀{xs:List V} {us:List aC} (i:Nat),eG xs us->eG (xs.set i x) (us.set i u)
 | _,_,_,.nil=>.nil
 | _,_,0,.cons _ t=>.cons r t
 | _,_,i+1,.cons q t=>.cons q (eG.set r i t)
theorem eG.append:∀{xs ys:List V} {us ws:List aC},eG xs us->eG ys ws->eG (xs++ys) (us++ws)
 | _,_,_,_,.nil,s=>s
 | _,_,_,_,.cons r t,s=>.cons r (eG.append t s)
theorem eG.take:∀{xs:List V} {us:List aC} (n:Nat),eG xs us->eG (xs.take n) (us.take n)
 | _,_,0,_=>.nil
 | _,_,_+1,.nil=>.nil
 | _,_,n+1,.cons r t=>.cons r (eG.take n t)
theorem eG.drop:∀{xs:List V} {us:List aC} (n:Nat),eG xs us->eG (xs.drop n) (us.drop n)
 | _,_,0,r=>r
 | _,_,_+1,.nil=>.nil
 | _,_,n+1,.cons _ t=>eG.drop n t
def IU:Option V->Option aC->Prop
 | some v,some u=>RelV v u
 | none,none=>True
 | _,_=>False
def KV {κ:Type}:List (κ×V)->List (κ×aC)->Prop:=Paired λ(p:κ×V) (q:κ×aC)=>p.1=q.1/\RelV p.2 q.2
def kV:mX->V
 | .inl i=>.int i
 | .inr x=>.str x
inductive HO where
 | lst (xs:List V)
 | tup (xs:List V)
 | dK (kvs:List (mX×V)) | dT (kvs:List (List mX×V))
 | set (S:Int->Bool) (n:Nat)
 | ins (C dx:Addr) (fs:List (Str×V))
 | own (x:Addr)
 | xd (fs:List (Str×V))
 | met (f x:Addr)
 | rng (lo hi:Int)
 | frz (o:Obj) (u:HO)
 | tbl (ps:Array aC)
 | ext (φ:Heap->Prop)
abbrev Hp:=Addr->Option HO
def upd (H:Hp)(a:Addr)(o:HO):Hp:=λb=>if b=a then some o else H b
theorem aK {H:Hp}{a:Addr}{o:HO}:upd H a o a=some o:=by unfold upd;rw[if_pos rfl]
theorem aM {H:Hp}{a b:Addr}{o:HO}(h:b≠a):upd H a o b=H b:=by unfold upd;rw[if_neg h]
theorem Dg {H:Hp}{a:Addr}{o u:HO}:upd (upd H a o) a u=upd H a u:=by
 funext b;unfold upd;split <;> rfl
theorem eK {H:Hp}{a b:Addr}{o u:HO}(h:H a=some o)(h':H b=some u)(d:o≠u):a≠b:=by
 intro e;subst e;rw[h] at h';exact d (cX h')
theorem bJ {H:Hp}{a b:Addr}{o:HO}(h:H a=some o)(h':H b=none):a≠b:=by
 intro e;subst e;rw[h] at h';cases h'
section
variable (P:bS)(w:cY)
def kH (H:Hp)(h:Heap)(a:Addr):HO->Prop
 | .lst xs=>xs.length<=sizeLine/\∃(its:List aC) (n:Nat),eG xs its/\h.get? a=some { cls:=.type "list",data:=.seq its.toArray n }
 | .tup xs=>xs.length<=sizeLine/\∃its:List aC,eG xs its/\IsTup h a its.toArray
 | .dK kvs=>kvs.length<=sizeLine/\(a==sysModules)=false/\∃vs,KV kvs vs/\h.DictOf (iD P w) a vs
 | .dT kvs=>kvs.length<=sizeLine/\(a==sysModules)=false/\∃xs:List (List mX×Addr×aC),
   Paired (λ(p:List mX×V) (q:List mX×Addr×aC)=>p.1=q.1/\H q.2.1=some (.tup (p.1.map kV))/\RelV p.2 q.2.2) kvs xs/\
   ∃o es ep,h.get? a=some o/\o.ExactDict/\o.data=.dict es ep/\es.toList=xs.map (entryOfKey (tupleKind (iD P w)))/\(xs.map (·.1)).Nodup
 | .set S n=>h.SetOf (intKind P w) a S n
 | .ins C dx fs=>H dx=some (.own a)/\fs.length<=1000/\dx≠a/\h.get? a=some (PySem.W.instObj C dx)/\
   ∃mA,h.Ns1 dx mA/\(∀f,IU (fs.lookup f) (mA f))/\PySem.Within mA (fs.map (·.1))
 | .own _=>∃o,h.get? a=some o
 | .xd fs=>∃mA,h.Ns1 a mA/\∀f,IU (fs.lookup f) (mA f)
 | .rng lo hi=>∃t u v,h.get? a=some { cls:=.type "range",data:=.fields #[.int lo t,.int hi u,.int 1 v] }
 | .frz o u=>h.get? a=some o/\kH H h a u
 | .tbl ps=>h.get? a=some { cls:=.none,data:=.fields ps }
 | .met f x=>h.get? a=some (PySem.W.methodObj (.ref f) (.ref x))
 | .ext φ=>φ h/\(∃o,h.get? a=some o)/\∀h1 h2:Heap,φ h1->(∀o,h1.get? a=some o->h2.get? a=some o)->φ h2
def IG (H:Hp)(h:Heap):Prop:=∀a o,H a=some o->kH P w H h a o
end
section
variable {P:bS}{w:cY}{H H':Hp}{h h':Heap}{a:Addr}{o:HO}
theorem kH.lt (x:kH P w H h a o):a < h.objs.size:=by
 cases o with
 | lst xs=>obtain⟨_,_,_,_,e⟩:=x;exact bD e
 | tup xs=>obtain⟨_,_,_,p⟩:=x;exact p.lt
 | dK kvs=>obtain⟨_,_,_,_,o,_,_,e,_⟩:=x;exact bD e
 | dT kvs=>obtain⟨_,_,_,_,o,_,_,e,_⟩:=x;exact bD e
 | set S n=>obtain⟨o,_,_,_,e,_⟩:=x;exact bD e
 | ins C dx fs=>obtain⟨_,_,_,e,_⟩:=x;exact bD e
 | own y=>obtain⟨_,e⟩:=x;exact bD e
 | xd fs=>obtain⟨_,⟨_,_,_,e,_⟩,_⟩:=x;exact bD e
 | rng lo hi=>obtain⟨_,_,_,e⟩:=x;exact bD e
 | frz ob u=>obtain⟨e,_⟩:=x;exact bD e
 | tbl ps=>exact bD (show h.get? a=some _ from x)
 | met f y=>exact bD (show h.get? a=some _ from x)
 | ext φ=>obtain⟨_,⟨_,e⟩,_⟩:=x;exact bD e
theorem Paired.mapP {α β:Type}{F G:α->β->Prop}:∀{l₁:List α} {l₂:List β},Paired F l₁ l₂->(∀a b,F a b->G a b)->Paired G l₁ l₂
 | _,_,.nil,_=>.nil
 | _,_,.cons r t,f=>.cons (f _ _ r) (Paired.mapP t f)
theorem kH.stay (x:kH P w H h a o)(k:∀b u,(b=a\/H b=some (.own a))->h.get? b=some u->h'.get? b=some u)
  (ho:∀b,H b=some (.own a)->H' b=some (.own a)) (ht:∀b xs,H b=some (.tup xs)->H' b=some (.tup xs)):kH P w H' h' a o:=by
 induction o with
 | lst xs=>obtain⟨z,its,n,r,e⟩:=x;exact⟨z,its,n,r,k _ _ (.inl rfl) e⟩
 | tup xs=>obtain⟨z,its,r,ob,e,c⟩:=x;exact⟨z,its,r,ob,k _ _ (.inl rfl) e,c⟩
 | dK kvs=>obtain⟨z,y,vs,r,ob,es,ep,e,c⟩:=x;exact⟨z,y,vs,r,ob,es,ep,k _ _ (.inl rfl) e,c⟩
 | dT kvs=>
  obtain⟨z,y,xs,r,ob,es,ep,e,c⟩:=x
  exact⟨z,y,xs,Paired.mapP r λp q z=>⟨z.1,ht _ _ z.2.1,z.2.2⟩,ob,es,ep,k _ _ (.inl rfl) e,c⟩
 | set S n=>obtain⟨ob,es,ep,t,e,c⟩:=x;exact⟨ob,es,ep,t,k _ _ (.inl rfl) e,c⟩
 | ins C dx fs=>
  obtain⟨d,z,ne,e,mA,⟨od,es,ep,e2,c⟩,r⟩:=x
  exact⟨ho _ d,z,ne,k _ _ (.inl rfl) e,mA,⟨od,es,ep,k _ _ (.inr d) e2,c⟩,r⟩
 | own y=>obtain⟨ob,e⟩:=x;exact⟨ob,k _ _ (.inl rfl) e⟩
 | xd fs=>obtain⟨mA,⟨od,es,ep,e,c⟩,r⟩:=x;exact⟨mA,⟨od,es,ep,k _ _ (.inl rfl) e,c⟩,r⟩
 | rng lo hi=>obtain⟨t,u,v,e⟩:=x;exact⟨t,u,v,k _ _ (.inl rfl) e⟩
 | frz ob u ih=>obtain⟨e,q⟩:=x;exact⟨k _ _ (.inl rfl) e,ih q⟩
 | tbl ps=>
  have e:h.get? a=some { cls:=.none,data:=.fields ps }:=x
  show h'.get? a=some { cls:=.none,data:=.fields ps }
  exact k a _ (.inl rfl) e
 | met f y=>
  have e:h.get? a=some (PySem.W.methodObj (.ref f) (.ref y)):=x
  show h'.get? a=some (PySem.W.methodObj (.ref f) (.ref y))
  exact k a _ (.inl rfl) e
 | ext φ=>obtain⟨p,⟨o,e⟩,st⟩:=x;exact⟨st _ _ p λo q=>k _ _ (.inl rfl) q,⟨o,k _ _ (.inl rfl) e⟩,st⟩
theorem IG.lt (x:IG P w H h)(e:H a=some o):a < h.objs.size:=(x a o e).lt
theorem IG.fresh (x:IG P w H h)(e:h.objs.size<=a):H a=none:=by
 cases q:H a with
 | none=>rfl
 | some u=>exact absurd (bW (x.lt q) e) (fV _)
theorem IG.kept (x:IG P w H h)(k:∀b u,h.get? b=some u->h'.get? b=some u):IG P w H h':=λa o e=>
 (x a o e).stay (λb u _ q=>k b u q) (λ_ q=>q) λ_ _ q=>q
theorem IG.laid (x:IG P w H h)(k:∀b u,h.get? b=some u->h'.get? b=some u)(hp:h.objs.size<=a)(new:kH P w (upd H a o) h' a o):IG P w (upd H a o) h':=λb u e=>by
 have hn:=x.fresh hp
 by_cases hb:b=a
 ·subst hb;rw[aK] at e;cases e;exact new
 ·rw[aM hb] at e
  exact(x b u e).stay (λc v _ q=>k c v q) (λc q=>by rw[aM (bJ q hn)];exact q) λc xs q=>by rw[aM (bJ q hn)];exact q
end
def Rd (H:Hp)(a:Addr)(u:HO):Prop:=H a=some u\/∃o,H a=some (.frz o u)
theorem Rd.ok {P:bS}{w:cY}{H:Hp}{h:Heap}{a:Addr}{u:HO}(r:Rd H a u)(x:IG P w H h):kH P w H h a u:=by
 rcases r with r | ⟨o,r⟩
 ·exact x a u r
 ·obtain⟨_,q⟩:=x a _ r
  exact q
def B1:Option HO->Prop
 | some (.lst _)=>True
 | some (.dK _)=>True
 | some (.dT _)=>True
 | some (.set _ _)=>True
 | some (.ins _ _ _)=>True
 | some (.ext _)=>True
 | _=>False
section
variable {P:bS}{w:cY}{H:Hp}{h h':Heap}{x e:Addr}{o':HO}
theorem IG.write (ok:IG P w H h)(mu:B1 (H x))(he:e=x\/H e=some (.own x))(k:∀b u,b≠e->h.get? b=some u->h'.get? b=some u)(heo:∃u,h'.get? e=some u)
  (new:kH P w (upd H x o') h' x o'):IG P w (upd H x o') h':=λb u q=>by
 have nown:∀c y,H c=some (.own y)->c≠x:=λc y r z=>by subst z;rw[r] at mu;exact mu
 have ntup:∀c xs,H c=some (.tup xs)->c≠x:=λc xs r z=>by subst z;rw[r] at mu;exact mu
 by_cases hb:b=x
 ·subst hb;rw[aK] at q;cases q;exact new
 ·rw[aM hb] at q
  by_cases hbe:b=e
  ·have q':H b=some (.own x):=by
    rcases he with z | z
    ·exact absurd (hbe.trans z) hb
    ·rw[hbe];exact z
   rw[q] at q';cases q'
   obtain⟨v,hv⟩:=heo
   exact⟨v,by rw[hbe];exact hv⟩
  ·refine(ok b u q).stay (λc v hc r=>k c v ?_ r) (λc r=>by rw[aM (nown c b r)];exact r) λc xs r=>by rw[aM (ntup c xs r)];exact r
   rcases hc with rfl | hc
   ·exact hbe
   ·rintro rfl
    rcases he with z | z
    ·exact nown c b hc z
    ·rw[hc] at z;cases z;exact hb rfl
end
structure Un (fs ex:List Addr)(H H':Hp)(h h':Heap):Prop where
 keep:∀b o,h.get? b=some o->H b=none->b ∉ fs->b ∉ ex->h'.get? b=some o
 slot:∀b o,h.get? b=some o->H b=none->b∈fs->b ∉ ex->∃sl,h'.get? b=some { o with slots:=sl }
 free:∀b o,h.get? b=some o->H b=none->b ∉ ex->H' b=none
 there:∀b o,h.get? b=some o->b ∉ ex->∃o',h'.get? b=some o'
 tups:∀b xs,H b=some (.tup xs)->H' b=some (.tup xs)
 frzs:∀b o u,H b=some (.frz o u)->H' b=some (.frz o u)
 tbls:∀b ps,H b=some (.tbl ps)->∃more,H' b=some (.tbl (ps++more))
section
variable {fs fs' ex ex':List Addr}{H H1 H2:Hp}{h h1 h2 h':Heap}{a x e:Addr}{o:HO}
theorem Un.any (u:Un fs ex H H1 h h1){b:Addr}{ob:Obj}(q:h.get? b=some ob)(n:H b=none)(hx:b ∉ ex):∃sl,h1.get? b=some { ob with slots:=sl }:=by
 by_cases hb:b∈fs
 ·exact u.slot b ob q n hb hx
 ·exact⟨ob.slots,u.keep b ob q n hb hx⟩
theorem Un.kept (k:∀b u,h.get? b=some u->h'.get? b=some u):Un fs ex H H h h':=
 ⟨λb ob q _ _ _=>k b ob q,λb ob q _ _ _=>⟨ob.slots,k b ob q⟩,λ_ _ _ n _=>n,λb ob q _=>⟨ob,k b ob q⟩,λ_ _ q=>q,λ_ _ _ q=>q,λ_ ps q=>⟨#[],by rw[q];simp⟩⟩
theorem Un.refl:Un fs ex H H h h:=Un.kept λ_ _ q=>q
theorem Un.laid (k:∀b u,h.get? b=some u->h'.get? b=some u)(hp:h.objs.size<=a)(hn:H a=none):Un fs ex H (upd H a o) h h' where
 keep:=λb u q _ _ _=>k b u q
 slot:=λb u q _ _ _=>⟨u.slots,k b u q⟩
 free:=λb u q n _=>by rw[aM (cJ (bW (bD q) hp))];exact n
 there:=λb u q _=>⟨u,k b u q⟩
 tups:=λb xs q=>by rw[aM (bJ q hn)];exact q
 frzs:=λb u xs q=>by rw[aM (bJ q hn)];exact q
 tbls:=λb ps q=>⟨#[],by rw[aM (bJ q hn),q];simp⟩
theorem Un.write (mu:B1 (H x))(he:e=x\/H e=some (.own x))(k:∀b u,b≠e->h.get? b=some u->h'.get? b=some u)(heo:∃u,h'.get? e=some u):Un fs ex H (upd H x o) h h':=by
 have hx:∀b,H b=none->b≠x:=λb n z=>by subst z;rw[n] at mu;exact mu
 have hb:∀b,H b=none->b≠e:=λb n z=>by
  subst z
  rcases he with r | r
  ·exact hx b n r
  ·rw[n] at r;cases r
 have hm:∀b u,H b=some u->¬B1 (some u)->b≠x:=λb u q nm z=>by subst z;rw[q] at mu;exact nm mu
 refine⟨λb u q n _ _=>k b u (hb b n) q,λb u q n _ _=>⟨u.slots,k b u (hb b n) q⟩,λb u q n _=>by rw[aM (hx b n)];exact n,λb u q _=> ?_,
  λb xs q=>by rw[aM (hm b _ q λz=>z)];exact q,λb u xs q=>by rw[aM (hm b _ q λz=>z)];exact q,λb ps q=>⟨#[],by rw[aM (hm b _ q λz=>z),q];simp⟩⟩
 by_cases hbe:b=e
 ·subst hbe;exact heo
 ·exact⟨u,k b u hbe q⟩
end
def Y1 (h:Heap)(H:Hp):List Addr:=(bA h.objs.size).filter λa=>(H a).isSome
def ZW (h:Heap)(H:Hp):Heap:=PySem.W.hideAll h (Y1 h H)
theorem Th (h:Heap)(H:Hp):(ZW h H).objs.size=h.objs.size:=PySem.W.hideAll_size _ _
theorem Yb {h:Heap}{H:Hp}{b:Addr}{o:Obj}(e:h.get? b=some o)(n:H b=none):(ZW h H).get? b=some o:=
 PySem.W.hideAll_get _ e λhm=>by
  have q:(H b).isSome=true:=(bO.mp hm).2
  rw[n] at q;simp at q
theorem j3 {h:Heap}{H:Hp}{b:Addr}{o:Obj}(e:(ZW h H).get? b=some o):h.get? b=some o/\H b=none:=by
 have e':h.get? b=some o:=PySem.W.of_hideAll (Y1 h H) e
 refine⟨e',?_⟩
 cases q:H b with
 | none=>rfl
 | some x=>
  have hm:b∈Y1 h H:=bO.mpr ⟨bM.mpr (bD e'),by simp[q]⟩
  have z:(ZW h H).get? b=none:=PySem.W.hideAll_none (Y1 h H) hm
  rw[z] at e;cases e
def p9 (g h:Heap)(L:Addr):List (Addr×Obj):=(bA h.objs.size).filterMap λa=>if a=L\/(g.get? a).isSome=true then none else(h.get? a).map λo=>(a,o)
def uL (g h:Heap)(L d:Addr):List (Addr×Obj):=(p9 g h L).filter λp=>decide (p.1≠d)
end L2
namespace L2
open PySem PySem.Spec PyProof.Rows
structure Z4 (K:PySem.W.Frag)(mg:Str->Option aC)(base:Heap):Prop where
 kin:K.In base
 glob:base.Ns mainGlobals mg
 blt:∃mb,base.Ns builtinsNs mb/\∀x:Str,x≠"__name__"->mb x=bootBuiltins x
 nolimit:base.NoLimit
structure Cx where
 prog:bS
 w:cY
 K:PySem.W.Frag
 mg:Str->Option aC
 base:Heap
 A:dZ
 N:List Str
 s_0:aI
 H_0:Hp
 env:Env
 outer:List Env
 stack:List Env
 ex:List Addr
 fn:Str->Bool
 calm:Bool
 pn:List (Addr×Obj)
 xe:aC->aI->Prop
def Ff (l:List Env):List Addr:=l.filterMap (·.frame)
abbrev Cx.fs (X:Cx):List Addr:=Ff X.outer
def V8 (sc:Scope)(x:Str):Prop:=sc.names.lookup x=some .local\/sc.names.lookup x=some .cell\/sc.names.lookup x=some .free
def Z5 (sc:Scope)(x:Str):Prop:=sc.names.lookup x=some .local\/sc.names.lookup x=some .cell
def X3 (env:Env)(h:Heap)(m:Str->Option aC)(x:Str)(u:aC):Prop:=
 (env.kindOf x=some .local/\m x=some u)\/((env.kindOf x=some .cell\/env.kindOf x=some .free)/\∃c,env.cells.lookup x=some c/\h.IsCell c (some u))
structure Cx.Ok (X:Cx):Prop where
 mod:Z4 X.K X.mg X.base
 kind:X.env.scope.kind=.function
 glob:X.env.globals=mainGlobals
 blt:X.env.builtins=builtinsNs
 above:X.s_0.heap.objs.size<=X.env.locals
 inj:∀x y c,X.env.cells.lookup x=some c->X.env.cells.lookup y=some c->x=y
 has:∀x,(X.env.kindOf x=some .cell\/X.env.kindOf x=some .free)->∃c,X.env.cells.lookup x=some c
 cab:∀x c,X.fn x=true->X.env.cells.lookup x=some c->X.s_0.heap.objs.size<=c
 hd:X.calm=true->X.A.handled=none
 frames:X.A.frames=some X.stack
 stk:X.stack=X.outer\/(X.stack=X.env::X.outer/\X.env.frame=some X.env.locals)
 exf:∀b∈X.ex,b≠X.env.locals/\∀x c,X.env.cells.lookup x=some c->c≠b
 bs:∀b o,X.base.get? b=some o->X.s_0.heap.get? b=some o/\X.H_0 b=none
 bsz:X.base.objs.size<=X.s_0.heap.objs.size
 noex:∀b o,X.base.get? b=some o->b ∉ X.ex
 exfs:∀b∈X.ex,b ∉ X.fs
 funs:X.s_0.heap.FunFrames X.base X.outer
 frf:∀b∈X.fs,X.H_0 b=none
structure Inv (X:Cx)(pins:List (Addr×Obj))(σ:List (Option V))(H:Hp)(s:aI):Prop where
 ok:X.Ok
 os:s.os=X.s_0.os
 bare:Gk s.gens
 base:Un X.fs X.ex X.H_0 H X.s_0.heap s.heap
 loc:∃m,s.heap.Ns X.env.locals m/\∀(i:Nat) (x:Str) (v:V),X.N[i]? =some x->σ[i]? =some (some v)->V8 X.env.scope x->∃u,RelV v u/\X3 X.env s.heap m x u
 cell:∀x c,X.env.cells.lookup x=some c->∃v,s.heap.IsCell c v
 free:H X.env.locals=none
 freeC:∀x c,X.env.cells.lookup x=some c->H c=none
 pin:∀p∈X.pn++pins,s.heap.get? p.1=some p.2/\H p.1=none/\p.1≠X.env.locals/\p.1 ∉ X.fs/\∀v,p.2.data≠ .cell v
 hok:IG X.prog X.w H s.heap
 len:σ.length=X.N.length
section
variable {X:Cx}{pins:List (Addr×Obj)}{σ:List (Option V)}{H H':Hp}{s:aI}{h':Heap}
theorem Cx.Ok.nofr (ok:X.Ok){b:Addr}{o:Obj}(e:X.base.get? b=some o):b ∉ X.fs:=λhb=>by
 have:=(ok.funs.mem hb).1
 rw[e] at this;cases this
theorem Inv.bs (I:Inv X pins σ H s):∀b o,X.base.get? b=some o->s.heap.get? b=some o/\H b=none:=λb o e=>
 ⟨I.base.keep b o (I.ok.bs b o e).1 (I.ok.bs b o e).2 (I.ok.nofr e) (I.ok.noex b o e),I.base.free b o (I.ok.bs b o e).1 (I.ok.bs b o e).2 (I.ok.noex b o e)⟩
theorem Inv.bk (I:Inv X pins σ H s):∀b o,X.base.get? b=some o->s.heap.get? b=some o:=λb o e=>(I.bs b o e).1
theorem Inv.mod (I:Inv X pins σ H s):Z4 X.K X.mg X.base:=I.ok.mod
theorem Inv.kIn (I:Inv X pins σ H s):X.K.In s.heap:=I.ok.mod.kin.keeps I.bk
theorem Inv.nolimit (I:Inv X pins σ H s):s.heap.NoLimit:=I.ok.mod.nolimit.keeps I.bk
theorem Inv.lt (I:Inv X pins σ H s):X.env.locals < s.heap.objs.size:=let ⟨_,hn,_⟩:=I.loc;hn.lt
theorem Inv.sz (I:Inv X pins σ H s):X.s_0.heap.objs.size<=s.heap.objs.size:=cV I.ok.above (KJ I.lt)
theorem Inv.nofs (I:Inv X pins σ H s){a:Addr}(h:s.heap.objs.size<=a):a ∉ X.fs:=λhb=>by
 obtain⟨_,o,ho,_⟩:=I.ok.funs.mem hb
 exact absurd (bW (bD ho) (cV I.sz h)) (fV _)
theorem Inv.cne (I:Inv X pins σ H s):∀x c,X.env.cells.lookup x=some c->c≠X.env.locals:=λx c e z=>by
 obtain⟨v,o,ho,hd⟩:=I.cell x c e
 obtain⟨m,⟨o',es,ep,ho',hd',_⟩,_⟩:=I.loc
 rw[z,ho'] at ho;cases ho;rw[hd'] at hd;cases hd
theorem Inv.funs (I:Inv X pins σ H s):s.heap.FunFrames X.base X.outer:=by
 have all:∀(l:List Env),(∀b∈Ff l,b∈X.fs)->X.s_0.heap.FunFrames X.base l->s.heap.FunFrames X.base l:=by
  intro l
  induction l with
  | nil=>intro _ _;trivial
  | cons env r ih=>
   intro hs hl
   obtain⟨hk,⟨L,o,hf,hn,ho,hd⟩,hr⟩:=hl
   have hL:L∈X.fs:=hs L (by unfold Ff;rw[dM,hf];exact aT)
   obtain⟨sl,e⟩:=I.base.slot L o ho (I.ok.frf L hL) hL λz=>I.ok.exfs L z hL
   exact⟨hk,⟨L,_,hf,hn,e,hd⟩,ih (λb hb=>hs b (by unfold Ff;rw[dM,hf];exact aN _ hb)) hr⟩
 exact all X.outer (λ_ hb=>hb) I.ok.funs
theorem Inv.stack (I:Inv X pins σ H s):s.heap.FunFrames X.base X.stack:=by
 rcases I.ok.stk with e | ⟨e,hf⟩
 ·rw[e];exact I.funs
 ·rw[e]
  obtain⟨m,hn,_⟩:=I.loc
  refine .cons (by rw[I.ok.kind];decide) hf hn ?_ I.funs
  exact Heap.get?_none_of_le (cV I.ok.bsz I.ok.above)
theorem Inv.stkSub (I:Inv X pins σ H s):∀b∈Ff X.stack,b∈X.env.locals::X.fs:=λb hb=>by
 rcases I.ok.stk with e | ⟨e,hf⟩
 ·rw[e] at hb;exact aN _ hb
 ·rw[e] at hb
  unfold Ff at hb
  rw[dM,hf] at hb
  exact hb
theorem Inv.stkFree (I:Inv X pins σ H s):∀b∈Ff X.stack,H b=none:=λb hb=>by
 rcases bN.mp (I.stkSub b hb) with e | hb
 ·rw[e];exact I.free
 ·obtain⟨_,o,ho,_⟩:=I.ok.funs.mem hb
  exact I.base.free b o ho (I.ok.frf b hb) λz=>I.ok.exfs b z hb
theorem Inv.step {g':Array GenState}{t':Nat}{d':Drawn}{ch:List Addr}(I:Inv X pins σ H s)
  (hch:∀b∈ch,(b∈X.ex\/X.s_0.heap.objs.size<=b)/\b≠X.env.locals/\(∀x c,X.env.cells.lookup x=some c->c≠b)/\∀p∈X.pn++pins,p.1≠b)
  (keep:∀b o,b≠X.env.locals->b ∉ X.fs->b ∉ ch->s.heap.get? b=some o->H b=none->h'.get? b=some o)
  (slot:∀b o,b≠X.env.locals->b∈X.fs->b ∉ ch->s.heap.get? b=some o->H b=none->∃sl,h'.get? b=some { o with slots:=sl }) (free:∀b o,b ∉ ch->s.heap.get? b=some o->H b=none->H' b=none)
  (there:∀b o,b ∉ ch->s.heap.get? b=some o->∃o',h'.get? b=some o')
  (tups:∀b xs,H b=some (.tup xs)->H' b=some (.tup xs)) (frzs:∀b o u,H b=some (.frz o u)->H' b=some (.frz o u)) (tbls:∀b ps,H b=some (.tbl ps)->∃more,H' b=some (.tbl (ps++more)))
  (ns:∀m,s.heap.Ns X.env.locals m->h'.Ns X.env.locals m) (hok:IG X.prog X.w H' h') (hg:Gk g'):
  Inv X pins σ H' { s with heap:=h',gens:=g',drawn:=d',toks:=t' }:=by
 have neL:∀b o,X.s_0.heap.get? b=some o->b≠X.env.locals:=λb o e=>cJ (bW (bD e) I.ok.above)
 have neC:∀b o,X.s_0.heap.get? b=some o->b ∉ X.ex->b ∉ ch:=λb o e hx hb=>by
  rcases(hch b hb).1 with z | z
  ·exact hx z
  ·exact absurd (bW (bD e) z) (fV _)
 have cellK:∀x c,X.env.cells.lookup x=some c->∀v,s.heap.IsCell c v->h'.IsCell c v:=λx c e v ⟨o,ho,hd⟩=>by
  have nch:c ∉ ch:=λz=>(hch c z).2.2.1 x c e rfl
  by_cases hc:c∈X.fs
  ·obtain⟨sl,q⟩:=slot c o (I.cne x c e) hc nch ho (I.freeC x c e)
   exact⟨_,q,hd⟩
  ·exact⟨o,keep c o (I.cne x c e) hc nch ho (I.freeC x c e),hd⟩
 refine⟨I.ok,I.os,hg,⟨λb o e n hb hx=> ?_,λb o e n hb hx=> ?_,λb o e n hx=> ?_,λb o e hx=> ?_,λb xs e=>tups b xs (I.base.tups b xs e),λb o xs e=>frzs b o xs (I.base.frzs b o xs e),λb ps e=> ?_⟩,?_,λx c e=> ?_,?_,λx c e=> ?_,λp hp=> ?_,hok,I.len⟩
 ·exact keep b o (neL b o e) hb (neC b o e hx) (I.base.keep b o e n hb hx) (I.base.free b o e n hx)
 ·obtain⟨sl,e1⟩:=I.base.slot b o e n hb hx
  obtain⟨sl',e2⟩:=slot b _ (neL b o e) hb (neC b o e hx) e1 (I.base.free b o e n hx)
  exact⟨sl',e2⟩
 ·obtain⟨o',e1⟩:=I.base.there b o e hx
  exact free b o' (neC b o e hx) e1 (I.base.free b o e n hx)
 ·obtain⟨o',e1⟩:=I.base.there b o e hx
  exact there b o' (neC b o e hx) e1
 ·obtain⟨m1,e1⟩:=I.base.tbls b ps e
  obtain⟨m2,e2⟩:=tbls b _ e1
  exact⟨m1++m2,by rw[e2,Array.append_assoc]⟩
 ·obtain⟨m,hn,hl⟩:=I.loc
  refine⟨m,ns m hn,λi x v e1 e2 e3=> ?_⟩
  obtain⟨u,r,l⟩:=hl i x v e1 e2 e3
  refine⟨u,r,?_⟩
  rcases l with l | ⟨k,c,e,z⟩
  ·exact .inl l
  ·exact .inr ⟨k,c,e,cellK x c e _ z⟩
 ·obtain⟨v,z⟩:=I.cell x c e
  exact⟨v,cellK x c e v z⟩
 ·obtain⟨m,⟨o,_,_,ho,_⟩,_⟩:=I.loc
  exact free _ o (λz=>(hch _ z).2.1 rfl) ho I.free
 ·obtain⟨v,o,ho,hd⟩:=I.cell x c e
  exact free c o (λz=>(hch c z).2.2.1 x c e rfl) ho (I.freeC x c e)
 ·obtain⟨e,n,ne,nf,d⟩:=I.pin p hp
  have nch:p.1 ∉ ch:=λz=>(hch p.1 z).2.2.2 p hp rfl
  exact⟨keep p.1 p.2 ne nf nch e n,free p.1 p.2 nch e n,ne,nf,d⟩
theorem Inv.un {t':Nat}(I:Inv X pins σ H s)(u:Un X.fs [] H H' s.heap h')(hok:IG X.prog X.w H' h'):Inv X pins σ H' { s with heap:=h',toks:=t' }:=by
 obtain⟨m,⟨o,es,ep,ho,r⟩,_⟩:=id I.loc
 obtain⟨sl,hL⟩:=u.any ho I.free (by simp)
 exact I.step (g':=s.gens) (d':=s.drawn) (ch:=[]) (λ_ z=>nomatch z) (λb o _ hb _ e n=>u.keep b o e n hb (by simp)) (λb o _ hb _ e n=>u.slot b o e n hb (by simp)) (λb o _ e n=>u.free b o e n (by simp)) (λb o _ e=>u.there b o e (by simp)) u.tups u.frzs u.tbls (λm' hm=>by
  obtain⟨o',es',ep',ho',r'⟩:=hm
  rw[ho] at ho';cases ho'
  exact⟨_,es',ep',hL,r'⟩) hok I.bare
theorem Inv.call {g':Array GenState}{t':Nat}{d':Drawn}{ch:List Addr}(I:Inv X pins σ H s)(u:Un (Ff X.stack) ch H H' s.heap h')(hok:IG X.prog X.w H' h')(hg:Gk g')
  (hch:∀b∈ch,(b∈X.ex\/X.s_0.heap.objs.size<=b)/\b≠X.env.locals/\(∀x c,X.env.cells.lookup x=some c->c≠b)/\∀p∈X.pn++pins,p.1≠b):
  Inv X pins σ H' { s with heap:=h',gens:=g',drawn:=d',toks:=t' }:=by
 obtain⟨m,⟨o,es,ep,ho,r⟩,_⟩:=id I.loc
 obtain⟨sl,hL⟩:=u.any ho I.free λz=>(hch _ z).2.1 rfl
 exact I.step (ch:=ch) hch (λb o hL hb hc e n=>u.keep b o e n (λz=>(bN.mp (I.stkSub b z)).elim hL hb) hc) (λb o _ _ hc e n=>u.any e n hc) (λb o hc e n=>u.free b o e n hc) (λb o hc e=>u.there b o e hc) u.tups u.frzs u.tbls (λm' hm=>by
  obtain⟨o',es',ep',ho',r'⟩:=hm
  rw[ho] at ho';cases ho'
  exact⟨_,es',ep',hL,r'⟩) hok hg
theorem Inv.turned {t':Nat}{it:Addr}(I:Inv X pins σ H s)(k:∀b o,b≠it->s.heap.get? b=some o->h'.get? b=some o)(hn:H it=none)(hL:it≠X.env.locals)
  (h1:it∈X.ex\/X.s_0.heap.objs.size<=it) (h2:∀x c,X.env.cells.lookup x=some c->c≠it) (h3:∀p∈X.pn++pins,p.1≠it):Inv X pins σ H { s with heap:=h',toks:=t' }:=by
 have nit:∀b u,H b=some u->b≠it:=λb u e z=>by rw[z,hn] at e;cases e
 refine I.step (g':=s.gens) (d':=s.drawn) (ch:=[it]) (λb hb=> ?_) (λb o _ _ hc e _=>k b o (λz=>hc (by simp[z])) e) (λb o _ _ hc e _=>⟨o.slots,k b o (λz=>hc (by simp[z])) e⟩) (λ_ _ _ _ n=>n)
  (λb o hc e=>⟨o,k b o (λz=>hc (by simp[z])) e⟩) (λ_ _ e=>e) (λ_ _ _ e=>e) (λb ps e=>⟨#[],by rw[e];simp⟩) (λm hm=> ?_) (λb u e=> ?_) I.bare
 ·have e:b=it:=by simpa using hb
  subst e
  exact⟨h1,hL,h2,h3⟩
 ·obtain⟨o,es,ep,ho,r⟩:=hm
  exact⟨o,es,ep,k _ o (fE hL) ho,r⟩
 ·refine(I.hok b u e).stay (λc v hc q=>k c v ?_ q) (λ_ q=>q) λ_ _ q=>q
  rcases hc with z | z
  ·rw[z];exact nit b u e
  ·exact nit c _ z
theorem Inv.tok (I:Inv X pins σ H s)(t:Nat):Inv X pins σ H { s with toks:=t }:=I.un (h':=s.heap) (t':=t) Un.refl I.hok
theorem Inv.kept {t':Nat}(I:Inv X pins σ H s)(k:∀b u,s.heap.get? b=some u->h'.get? b=some u):Inv X pins σ H { s with heap:=h',toks:=t' }:=I.un (Un.kept k) (I.hok.kept k)
theorem Inv.laid {a:Addr}{o:HO}{t':Nat}(I:Inv X pins σ H s)(k:∀b u,s.heap.get? b=some u->h'.get? b=some u)(hp:s.heap.objs.size<=a)(new:kH X.prog X.w (upd H a o) h' a o):
  Inv X pins σ (upd H a o) { s with heap:=h',toks:=t' }:=I.un (Un.laid k hp (I.hok.fresh hp)) (I.hok.laid k hp new)
theorem Inv.write {x e:Addr}{o:HO}{t':Nat}(I:Inv X pins σ H s)(mu:B1 (H x))(he:e=x\/H e=some (.own x))(k:∀b u,b≠e->s.heap.get? b=some u->h'.get? b=some u)(heo:∃u,h'.get? e=some u)
  (new:kH X.prog X.w (upd H x o) h' x o):Inv X pins σ (upd H x o) { s with heap:=h',toks:=t' }:=I.un (Un.write mu he k heo) (I.hok.write mu he k heo new)
theorem Inv.weak {σ':List (Option V)}(I:Inv X pins σ H s)(hl:σ'.length=σ.length)(w:∀(i:Nat) v,σ'[i]? =some (some v)->σ[i]? =some (some v)):Inv X pins σ' H s:=
 ⟨I.ok,I.os,I.bare,I.base,let ⟨m,hn,hl'⟩:=I.loc;⟨m,hn,λi x v e1 e2 e3=>hl' i x v e1 (w i v e2) e3⟩,I.cell,I.free,I.freeC,I.pin,I.hok,hl.trans I.len⟩
theorem Inv.pins_of {pins':List (Addr×Obj)}(I:Inv X pins σ H s)(h:∀p∈pins',s.heap.get? p.1=some p.2/\H p.1=none/\p.1≠X.env.locals/\p.1 ∉ X.fs/\∀v,p.2.data≠ .cell v):Inv X pins' σ H s:=
 ⟨I.ok,I.os,I.bare,I.base,I.loc,I.cell,I.free,I.freeC,λp hp=>(cW.mp hp).elim (λz=>I.pin p (iG _ z)) (h p),I.hok,I.len⟩
theorem WV {N:List Str}(hN:N.Nodup){i j:Nat}{x:Str}(a:N[i]? =some x)(b:N[j]? =some x):i=j:=by
 obtain⟨h1,e1⟩:=bL.mp a
 obtain⟨h2,e2⟩:=bL.mp b
 exact(List.getElem_inj hN).mp (e1.trans e2.symm)
theorem As {M:dr}{A:dZ}{E:aC->aI->Prop}{i:Nat}{x:Str}{v:V}{u:aC}{Q:Unit->aI->Prop}(I:Inv X pins σ H s)(hN:X.N.Nodup)(hi:X.N[i]? =some x)(hx:Z5 X.env.scope x)(r:RelV v u)
  (h:∀s',Inv X pins (σ.set i (some v)) H s'->(∃a,oK a s.heap s'.heap/\(a=X.env.locals\/X.env.cells.lookup x=some a))->Q () s') (hf:X.fn x=true\/X.env.scope.names.lookup x=some .local:=by first | exact .inl rfl | exact .inr rfl | assumption):wpAny M A (storeName X.env x u) Q E s:=by
 obtain⟨m,hn,hl⟩:=id I.loc
 have hcls:(X.env.scope.kind== .class || (X.env.scope.kind== .module&&X.env.locals != X.env.globals))=false:=by rw[I.ok.kind];rfl
 have hiσ:i < σ.length:=by rw[I.len];exact(bL.mp hi).1
 have cne:=I.cne
 have tracked:∀{a:Addr} {h':Heap},(∃o,s.heap.get? a=some o/\H a=none)->oK a s.heap h'->IG X.prog X.w H h':=λ{a h'} ha hs b ob e=>by
  obtain⟨_,_,hfree⟩:=ha
  refine(I.hok b ob e).stay (λc w' hc q=>(hs.2 c ?_).trans q) (λ_ q=>q) λ_ _ q=>q
  rintro rfl
  rcases hc with rfl | hc
  ·rw[hfree] at e;cases e
  ·rw[hfree] at hc;cases hc
 rcases hx with hk | hk
 ·refine wpAny_storeName_local hk hn (λh' hn' hs=> ?_) hcls
  obtain⟨oL,_,_,hoL,_⟩:=id hn
  refine h _ ⟨I.ok,I.os,I.bare,⟨λb o e n hb hx=> ?_,λb o e n hb hx=> ?_,I.base.free,λb o e hx=> ?_,I.base.tups,I.base.frzs,I.base.tbls⟩,⟨_,hn',λj y v' e1 e2 e3=> ?_⟩,λy c e=> ?_,I.free,I.freeC,λp hp=> ?_,tracked ⟨oL,hoL,I.free⟩ hs,by simpa using I.len⟩ ⟨_,hs,.inl rfl⟩
  ·exact(hs.2 b (cJ (bW (bD e) I.ok.above))).trans (I.base.keep b o e n hb hx)
  ·obtain⟨sl,e1⟩:=I.base.slot b o e n hb hx
   exact⟨sl,(hs.2 b (cJ (bW (bD e) I.ok.above))).trans e1⟩
  ·obtain⟨o',e1⟩:=I.base.there b o e hx
   exact⟨o',(hs.2 b (cJ (bW (bD e) I.ok.above))).trans e1⟩
  ·by_cases hj:j=i
   ·subst hj
    rw[hi] at e1;cases e1
    rw[uU hiσ] at e2
    cases e2
    exact⟨u,r,.inl ⟨hk,by simp⟩⟩
   ·rw[mM (fE hj)] at e2
    obtain⟨u',r',q⟩:=hl j y v' e1 e2 e3
    refine⟨u',r',?_⟩
    rcases q with⟨k,e⟩ | ⟨k,c,e,z⟩
    ·refine .inl ⟨k,?_⟩
     have:y≠x:=λe=>hj (WV hN e1 (e ▸ hi))
     simp[this,e]
    ·exact .inr ⟨k,c,e,z.sameBut hs (cne y c e)⟩
  ·obtain⟨w',z⟩:=I.cell y c e
   exact⟨w',z.sameBut hs (cne y c e)⟩
  ·obtain⟨e,n,ne,nf,d⟩:=I.pin p hp
   exact⟨(hs.2 p.1 ne).trans e,n,ne,nf,d⟩
 ·have hfn:X.fn x=true:=by
   rcases hf with z | z
   ·exact z
   ·rw[z] at hk;cases hk
  obtain⟨c,hc⟩:=I.ok.has x (.inl hk)
  obtain⟨w',z⟩:=I.cell x c hc
  refine wpAny_storeName_cell I.ok.kind hk hc z (λh' hc' hs=> ?_)
  obtain⟨oc,hoc,hocd⟩:=id z
  refine h { s with heap:=h' } ⟨I.ok,I.os,I.bare,⟨λb o e n hb hx=> ?_,λb o e n hb hx=> ?_,I.base.free,λb o e hx=> ?_,I.base.tups,I.base.frzs,I.base.tbls⟩,⟨m,hn.sameBut hs (fE (cne x c hc)),λj y v' e1 e2 e3=> ?_⟩,λy c' e=> ?_,I.free,I.freeC,λp hp=> ?_,tracked ⟨oc,hoc,I.freeC x c hc⟩ hs,by simpa using I.len⟩ ⟨c,hs,.inr hc⟩
  ·exact(hs.2 b (cJ (bW (bD e) (I.ok.cab x c hfn hc)))).trans (I.base.keep b o e n hb hx)
  ·obtain⟨sl,e1⟩:=I.base.slot b o e n hb hx
   exact⟨sl,(hs.2 b (cJ (bW (bD e) (I.ok.cab x c hfn hc)))).trans e1⟩
  ·obtain⟨o',e1⟩:=I.base.there b o e hx
   exact⟨o',(hs.2 b (cJ (bW (bD e) (I.ok.cab x c hfn hc)))).trans e1⟩
  ·by_cases hj:j=i
   ·subst hj
    rw[hi] at e1;cases e1
    rw[uU hiσ] at e2
    cases e2
    exact⟨u,r,.inr ⟨.inl hk,c,hc,hc'⟩⟩
   ·rw[mM (fE hj)] at e2
    obtain⟨u',r',q⟩:=hl j y v' e1 e2 e3
    refine⟨u',r',?_⟩
    rcases q with q | ⟨k,c',e,z'⟩
    ·exact .inl q
    ·refine .inr ⟨k,c',e,z'.sameBut hs ?_⟩
     rintro rfl
     exact hj (WV hN e1 (I.ok.inj _ _ _ e hc ▸ hi))
  ·by_cases hcc:c'=c
   ·subst hcc;exact⟨_,hc'⟩
   ·obtain⟨w2,z2⟩:=I.cell y c' e
    exact⟨w2,z2.sameBut hs hcc⟩
  ·obtain⟨e,n,ne,nf,d⟩:=I.pin p hp
   refine⟨(hs.2 p.1 ?_).trans e,n,ne,nf,d⟩
   intro q
   rw[q,hoc] at e
   have q':oc=p.2:=cX e
   exact d w' (by rw[<-q'];exact hocd)
theorem Hf {M:dr}{A:dZ}{E:aC->aI->Prop}{i:Nat}{x:Str}{v:V}{u:aC}{Q:Unit->aI->Prop}(I:Inv X pins σ H s)(hN:X.N.Nodup)(hi:X.N[i]? =some x)(hx:Z5 X.env.scope x)(r:RelV v u)
  (h:∀s',Inv X pins (σ.set i (some v)) H s'->Q () s') (hf:X.fn x=true\/X.env.scope.names.lookup x=some .local:=by first | exact .inl rfl | exact .inr rfl | assumption):wpAny M A (storeName X.env x u) Q E s:=
 As I hN hi hx r (λs' I' _=>h s' I') hf
theorem Inv.call' {s':aI}{ch:List Addr}(I:Inv X pins σ H s)(ho:s'.os=s.os)(u:Un (Ff X.stack) ch H H' s.heap s'.heap)(hok:IG X.prog X.w H' s'.heap)(hg:Gk s'.gens)
  (hch:∀b∈ch,(b∈X.ex\/X.s_0.heap.objs.size<=b)/\b≠X.env.locals/\(∀x c,X.env.cells.lookup x=some c->c≠b)/\∀p∈X.pn++pins,p.1≠b):Inv X pins σ H' s':=by
 obtain⟨h',g',d',t',o'⟩:=s'
 have e:o'=s.os:=ho
 subst e
 exact I.call (g':=g') (t':=t') (d':=d') u hok hg hch
end
abbrev XK:=aC->Option Addr->Hp->Prop
abbrev St:=List (Option V)
abbrev VK:=V->Hp->Prop
abbrev TE:=St->Hp->VK->Prop
abbrev TT:=St->Hp->(Bool->Hp->Prop)->Prop
abbrev TA:=St->Hp->(List V->Hp->Prop)->Prop
structure DA where
 nx:St->Hp->Prop
 rt:VK
 bk:St->Hp->Prop:=λ_ _=>False
 ct:St->Hp->Prop:=λ_ _=>False
abbrev TS:=DA->St->Hp->Prop
def EP (X:Cx)(pins:List (Addr×Obj))(σ:St)(Q:VK)(u:aC)(s':aI):Prop:=∃v H',Inv X pins σ H' s'/\RelV v u/\Q v H'
def TP (X:Cx)(pins:List (Addr×Obj))(σ:St)(Q:Bool->Hp->Prop)(b:Bool)(s':aI):Prop:=∃H',Inv X pins σ H' s'/\Q b H'
def AP (X:Cx)(pins:List (Addr×Obj))(σ:St)(Q:List V->Hp->Prop)(us:List aC)(s':aI):Prop:=∃vs H',Inv X pins σ H' s'/\eG vs us/\Q vs H'
def SP (X:Cx)(pins:List (Addr×Obj))(D:DA)(f:Flow)(s':aI):Prop:=
 match f with
 | .next=>∃σ' H',Inv X pins σ' H' s'/\D.nx σ' H'
 | .brk=>∃σ' H',Inv X pins σ' H' s'/\D.bk σ' H'
 | .cont=>∃σ' H',Inv X pins σ' H' s'/\D.ct σ' H'
 | .ret u=>∃v σ' H',Inv X pins σ' H' s'/\RelV v u/\D.rt v H'
def PE (X:Cx)(e:Expr)(t:TE):Prop:=
 ∀(pins:List (Addr×Obj)) (s:aI) (σ:St) (H:Hp) (Q:VK),Inv X pins σ H s->t σ H Q->wpAny (model X.prog X.w) X.A (eval e X.env) (EP X pins σ Q) X.xe s
def PT (X:Cx)(e:Expr)(t:TT):Prop:=
 ∀(pins:List (Addr×Obj)) (s:aI) (σ:St) (H:Hp) (Q:Bool->Hp->Prop),Inv X pins σ H s->t σ H Q->wpAny (model X.prog X.w) X.A (isTrue e X.env (eval e X.env)) (TP X pins σ Q) X.xe s
def PW (X:Cx)(e:Expr)(t:TT):Prop:=
 ∀(whole:Sem aC) (pins:List (Addr×Obj)) (s:aI) (σ:St) (H:Hp) (Q:Bool->Hp->Prop),Inv X pins σ H s->t σ H Q->wpAny (model X.prog X.w) X.A (isTrue e X.env whole) (TP X pins σ Q) X.xe s
theorem PW.pt {X:Cx}{e:Expr}{t:TT}(h:PW X e t):PT X e t:=h _
def PA (X:Cx)(es:List Expr)(t:TA):Prop:=
 ∀(pos:Pos) (pins:List (Addr×Obj)) (s:aI) (σ:St) (H:Hp) (Q:List V->Hp->Prop),Inv X pins σ H s->t σ H Q->wpAny (model X.prog X.w) X.A (spliced (backTo pos (starEach es X.env))) (AP X pins σ Q) X.xe s
def PS (X:Cx)(st:Stmt)(t:TS):Prop:=
 ∀(pins:List (Addr×Obj)) (s:aI) (σ:St) (H:Hp) (D:DA),Inv X pins σ H s->t D σ H->wpAny (model X.prog X.w) X.A (exec st X.env) (SP X pins D) X.xe s
def Ri (X:Cx)(st:List Stmt)(t:TS):Prop:=
 ∀(pins:List (Addr×Obj)) (s:aI) (σ:St) (H:Hp) (D:DA),Inv X pins σ H s->t D σ H->wpAny (model X.prog X.w) X.A (execs st X.env) (SP X pins D) X.xe s
theorem kC {α:Type}{t:Sem α}{Q Q':α->aI->Prop}{M:dr}{A:dZ}{E:aC->aI->Prop}{s:aI}(h:wpAny M A t Q E s)(hQ:∀a s,Q a s->Q' a s):wpAny M A t Q' E s:=jD h hQ λ_ _ x=>x
end L2
namespace L2
open PySem PySem.Spec PyProof.Rows
section
variable {X:Cx}
def IJ (i:Nat):TE:=λσ H Q=>Y3 σ[i]? λv=>Q v H
def tC (v:V):TE:=λ_ H Q=>Q v H
theorem E4 {i:Nat}{x:Str}{pos:Pos}(hN:X.N[i]? =some x)(hv:V8 X.env.scope x)(hd:(x==("__debug__":Str))=false:=by decide)(hcd:(x==("__classdict__":Str))=false:=by decide):PE X (.Name x pos) (IJ i):=by
 intro pins s σ H Q I h
 obtain⟨v,e,h⟩:=V6 h
 obtain⟨m,hn,hl⟩:=I.loc
 obtain⟨u,r,l⟩:=hl i x v hN e hv
 have fin:EP X pins σ Q u s:=⟨v,H,I,r,h⟩
 rcases l with⟨hk,hm⟩ | ⟨hk,c,hc,hcell⟩
 ·exact Y6 (wpAny_loadName_local I.ok.kind hk hn hm fin) hd
 ·rcases hk with hk | hk
  ·exact Y6 (wpAny_loadName_cell I.ok.kind hk hc hcell fin) hd
  ·exact Y6 (wpAny_loadName_free I.ok.kind hk hc hcell fin hcd) hd
theorem dS {i j pos}:PE X (.Constant (.int i) j pos) (tC (.int i)):=λ_ _ _ H _ I h=>wpAny_Constant_int ⟨.int i,H,I.tok _,⟨_,rfl⟩,h⟩
theorem yX {b j pos}:PE X (.Constant (.bool b) j pos) (tC (.bl b)):=λ_ _ _ H _ I h=>Constant_bool ⟨.bl b,H,I,rfl,h⟩
theorem Ee {j pos}:PE X (.Constant .none j pos) (tC .non):=λ_ _ _ H _ I h=>Af ⟨.non,H,I,rfl,h⟩
def Gl (X:Cx)(x:Str):Prop:=X.env.kindOf x=some .globalImplicit
theorem OA {E:aC->aI->Prop}{pins:List (Addr×Obj)}{s:aI}{σ:St}{H:Hp}{x:Str}{u:aC}{pos:Pos}{Q:aC->aI->Prop}(I:Inv X pins σ H s)(hg:Gl X x)(hm:X.mg x=some u)(h:Q u s)
  (hd:(x==("__debug__":Str))=false:=by decide):wpAny (model X.prog X.w) X.A (eval (.Name x pos) X.env) Q E s:=
 Gj I.ok.kind hg (Calls.loadGlobal_global (by rw[I.ok.glob];exact I.mod.glob.keeps I.bk) hm h) hd
theorem xO {E:aC->aI->Prop}{pins:List (Addr×Obj)}{s:aI}{σ:St}{H:Hp}{x:Str}{u:aC}{pos:Pos}{Q:aC->aI->Prop}(I:Inv X pins σ H s)(hg:Gl X x)(hm:X.mg x=none)(hv:bootBuiltins x=some u)(h:Q u s)
  (hn:x≠"__name__":=by decide) (hd:(x==("__debug__":Str))=false:=by decide):wpAny (model X.prog X.w) X.A (eval (.Name x pos) X.env) Q E s:=by
 obtain⟨mb,h1,h2⟩:=I.mod.blt
 exact Gj I.ok.kind hg (Calls.loadGlobal_builtin (by rw[I.ok.glob];exact I.mod.glob.keeps I.bk) hm (by rw[I.ok.blt];exact h1.keeps I.bk) ((h2 x hn).trans hv) h) hd
theorem Pk {x:Str}{v:V}{u:aC}{pos:Pos}(hg:Gl X x)(hm:X.mg x=some u)(r:RelV v u)(hd:(x==("__debug__":Str))=false:=by decide):PE X (.Name x pos) (tC v):=
 λ_ _ _ H _ I h=>OA I hg hm ⟨v,H,I,r,h⟩ hd
variable {a b:Expr}{ta tb:TE}{pos:Pos}
def PC (X:Cx)(op:Vd)(a b:Expr)(t:TE):Prop:=
 ∀(pins:List (Addr×Obj)) (s:aI) (σ:St) (H:Hp) (Q:VK),Inv X pins σ H s->t σ H Q->
  wpAny (model X.prog X.w) X.A (eval a X.env) (λv s₁=>wpAny (model X.prog X.w) X.A (eval b X.env) (λu s₂=>wpAny (model X.prog X.w) X.A (compareOp op v u) (EP X pins σ Q) X.xe s₂) X.xe s₁) X.xe s
theorem Iy (b:Expr){op:Vd}(h:op≠ .In)(h2:op≠ .NotIn):behindInMarks op b=false:=by
 have e1:(op==CmpOp.In)=false:=by cases op <;> first | rfl | exact absurd rfl h
 have e2:(op==eh)=false:=by cases op <;> first | rfl | exact absurd rfl h2
 cases b <;> simp[behindInMarks,e1,e2]
def Vs (ta:TE):TE:=λσ H Q=>ta σ H λx H1=>Q (.bl (decide (x=.non))) H1
def Hb (ta:TE):TE:=λσ H Q=>ta σ H λx H1=>Q (.bl (!decide (x=.non))) H1
theorem RelV.none_iff {x:V}{v:aC}(r:RelV x v):(v==oI)=decide (x=.non):=by
 cases x with
 | non=>cases r;rfl
 | bl _=>cases r;rfl
 | int _=>obtain⟨t,rfl⟩:=r;rfl
 | str _=>obtain⟨t,rfl⟩:=r;rfl
 | byt _=>obtain⟨t,rfl⟩:=r;rfl
 | flt _=>obtain⟨t,rfl⟩:=r;rfl
 | ref _=>cases r;rfl
 | ty _=>cases r;rfl
theorem Wx {j pos'}(ha:PE X a ta):PC X .Is a (.Constant .none j pos') (Vs ta):=by
 intro pins s σ H Q I h
 refine kC (ha pins s σ H _ I h) λv s1 ⟨x,H1,I1,r1,q1⟩=> ?_
 exact Af (is_none_gen ⟨.bl _,H1,I1,by rw[r1.none_iff];rfl,q1⟩)
theorem Po {j pos'}(ha:PE X a ta):PC X .IsNot a (.Constant .none j pos') (Hb ta):=by
 intro pins s σ H Q I h
 refine kC (ha pins s σ H _ I h) λv s1 ⟨x,H1,I1,r1,q1⟩=> ?_
 exact Af (isnot_none_gen ⟨.bl _,H1,I1,by rw[r1.none_iff];rfl,q1⟩)
def tB (t:TE):TT:=λσ H Q=>t σ H λx H1=>Nt x λc=>Q c H1
theorem E6 {op:Vd}{t:TE}(h:PC X op a b t)(h1:behindInMarks op b=false:=by first | exact Iy _ (by decide) (by decide) | rfl):PE X (.Compare a [op] [b] pos) t:=λpins s σ H Q I hw=>wpAny_Compare1 (h pins s σ H Q I hw) h1
theorem LC {op:Vd}{t:TE}(h:PC X op a b t)(h1:behindInMarks op b=false:=by first | exact Iy _ (by decide) (by decide) | rfl):PT X (.Compare a [op] [b] pos) (tB t):=by
 intro pins s σ H Q I hw
 refine M9 (kC (h pins s σ H _ I hw) λv s1 h1=>kC h1 λu s2 h2=>kC h2 λc s3 ⟨x,H1,I1,r1,q1⟩=> ?_) h1
 obtain⟨d,rfl,q⟩:=OO q1
 cases r1
 exact gH ⟨H1,I1,q⟩
theorem gI {e:Expr}{t:TE}(h:PE X e t)(he:∀whole,isTrue e X.env whole=(do let v <-whole;standAt e.pos;holding [v] (truthy v)):=by intro _;rfl):PT X e (tB t):=by
 intro pins s σ H Q I hw
 refine isTrue_plain (kC (h pins s σ H _ I hw) λv s1 ⟨x,H1,I1,r1,q1⟩=> ?_) (he _)
 obtain⟨d,rfl,q⟩:=OO q1
 cases r1
 exact gH ⟨H1,I1,q⟩
variable {tA tB':TT}{uL:List Expr}
def Q4 (t u:TT):TT:=λσ H Q=>t σ H λc H1=>if c=true then u σ H1 Q else Q false H1
def tOr (t u:TT):TT:=λσ H Q=>t σ H λc H1=>if c=true then Q true H1 else u σ H1 Q
def Q2 (t:TT):TT:=λσ H Q=>t σ H λc H1=>Q (!c) H1
theorem Ea (ha:PT X a tA):PW X (.BoolOp .And [a] pos) tA:=by
 intro wh pins s σ H Q I h
 refine isTrue_and (kC (ha pins s σ H Q I h) λc s1 e=> ?_)
 cases c with
 | true=>exact isTrue_and_nil e
 | false=>exact e
theorem WA (ha:PT X a tA):PW X (.BoolOp .Or [a] pos) tA:=by
 intro wh pins s σ H Q I h
 refine isTrue_or (kC (ha pins s σ H Q I h) λc s1 e=> ?_)
 cases c with
 | false=>exact isTrue_or_nil e
 | true=>exact e
theorem Mf (ha:PT X a tA)(hb:PW X (.BoolOp .And (b::uL) pos) tB'):PW X (.BoolOp .And (a::b::uL) pos) (Q4 tA tB'):=by
 intro wh pins s σ H Q I h
 refine isTrue_and (kC (ha pins s σ H _ I h) λc s1 ⟨H1,I1,q1⟩=> ?_)
 cases c with
 | true=>exact hb wh pins s1 σ H1 Q I1 q1
 | false=>exact⟨H1,I1,q1⟩
theorem Hz (ha:PT X a tA)(hb:PW X (.BoolOp .Or (b::uL) pos) tB'):PW X (.BoolOp .Or (a::b::uL) pos) (tOr tA tB'):=by
 intro wh pins s σ H Q I h
 refine isTrue_or (kC (ha pins s σ H _ I h) λc s1 ⟨H1,I1,q1⟩=> ?_)
 cases c with
 | true=>exact⟨H1,I1,q1⟩
 | false=>exact hb wh pins s1 σ H1 Q I1 q1
theorem qK (ha:PT X a tA):PT X (.UnaryOp .Not a pos) (Q2 tA):=by
 intro pins s σ H Q I h
 exact isTrue_not (ha pins s σ H (λc H1=>Q (!c) H1) I h)
def y3 (ta tb:TE):TE:=λσ H Q=>ta σ H λx H1=>Nt x λc=>if c=true then tb σ H1 Q else Q (.bl false) H1
def Q1 (ta tb:TE):TE:=λσ H Q=>ta σ H λx H1=>Nt x λc=>if c=true then Q (.bl true) H1 else tb σ H1 Q
def x5 (ta:TE):TE:=λσ H Q=>ta σ H λx H1=>Nt x λc=>Q (.bl (!c)) H1
theorem LD {op}{t:TE}(h:PE X a t):PE X (.BoolOp op [a] pos) t:=λpins s σ H Q I hw=>BoolOp_one (h pins s σ H Q I hw)
theorem Ww (ha:PE X a ta)(hb:PE X (.BoolOp .And (b::uL) pos) tb):PE X (.BoolOp .And (a::b::uL) pos) (y3 ta tb):=by
 intro pins s σ H Q I h
 refine BoolOp_and (kC (ha pins s σ H _ I h) λv s1 ⟨x,H1,I1,r1,q1⟩=> ?_)
 obtain⟨c,rfl,q1⟩:=OO q1
 cases r1
 refine gH ?_
 cases c with
 | true=>exact hb pins s1 σ H1 Q I1 q1
 | false=>exact⟨.bl false,H1,I1,rfl,q1⟩
theorem Ik (ha:PE X a ta)(hb:PE X (.BoolOp .Or (b::uL) pos) tb):PE X (.BoolOp .Or (a::b::uL) pos) (Q1 ta tb):=by
 intro pins s σ H Q I h
 refine BoolOp_or (kC (ha pins s σ H _ I h) λv s1 ⟨x,H1,I1,r1,q1⟩=> ?_)
 obtain⟨c,rfl,q1⟩:=OO q1
 cases r1
 refine gH ?_
 cases c with
 | false=>exact hb pins s1 σ H1 Q I1 q1
 | true=>exact⟨.bl true,H1,I1,rfl,q1⟩
theorem E5 (ha:PE X a ta):PE X (.UnaryOp .Not a pos) (x5 ta):=by
 intro pins s σ H Q I h
 refine UnaryOp_ (kC (ha pins s σ H _ I h) λv s1 ⟨x,H1,I1,r1,q1⟩=> ?_)
 obtain⟨c,rfl,q1⟩:=OO q1
 cases r1
 exact not_of (gH ⟨.bl (!c),H1,I1,rfl,q1⟩)
def tIf (t:TT)(ta tb:TE):TE:=λσ H Q=>t σ H λc H1=>if c=true then ta σ H1 Q else tb σ H1 Q
theorem kP {c:Expr}(hc:PT X c tA)(ha:PE X a ta)(hb:PE X b tb):PE X (.IfExp c a b pos) (tIf tA ta tb):=by
 intro pins s σ H Q I h
 refine wpAny_IfExp (kC (hc pins s σ H _ I h) λd s1 ⟨H1,I1,q1⟩=> ?_)
 cases d with
 | true=>exact ha pins s1 σ H1 Q I1 q1
 | false=>exact hb pins s1 σ H1 Q I1 q1
end
end L2
namespace L2
open PySem PySem.Spec PyProof.Rows
def dX (K:PySem.W.Frag)(H:Hp)(a:Addr)(xs:List V):Prop:=
 Rd H a (.lst xs)\/
  ∃(o:Obj) (its:Array aC) (n:Nat),K.lookup a=some o/\o.cls=.type "list"/\o.dict=none/\o.data=.seq its n/\its.size<=sizeLine/\eG xs its.toList
def KH (K:PySem.W.Frag)(H:Hp)(a:Addr)(xs:List V):Prop:=
 Rd H a (.tup xs)\/
  ∃(o:Obj) (its:Array aC) (n:Nat),K.lookup a=some o/\o.cls=.type "tuple"/\o.data=.seq its n/\its.size<=sizeLine/\eG xs its.toList
def da:aC->Option V
 | .none=>some .non
 | .bool b=>some (.bl b)
 | .int i _=>some (.int i)
 | .str x _=>some (.str x)
 | .bytes b _=>some (.byt b)
 | .float b _=>some (.flt b)
 | .ref a=>some (.ref a)
 | .type n=>some (.ty n)
 | _=>none
theorem RelV.abs {x:V}{u:aC}(r:RelV x u):da u=some x:=by
 cases x with
 | non=>cases r;rfl
 | bl _=>cases r;rfl
 | int _=>obtain⟨t,rfl⟩:=r;rfl
 | str _=>obtain⟨t,rfl⟩:=r;rfl
 | byt _=>obtain⟨t,rfl⟩:=r;rfl
 | flt _=>obtain⟨t,rfl⟩:=r;rfl
 | ref _=>cases r;rfl
 | ty _=>cases r;rfl
theorem RelV.inj {x y:V}{u:aC}(r:RelV x u)(q:RelV y u):x=y:=cX (r.abs.symm.trans q.abs)
theorem eG.inj:∀{xs ys:List V} {us:List aC},eG xs us->eG ys us->xs=ys
 | _,_,_,.nil,.nil=>rfl
 | _,_,_,.cons r t,.cons r' t'=>by rw[r.inj r',eG.inj t t']
section
variable {X:Cx}{pins:List (Addr×Obj)}{σ:St}{H:Hp}{s:aI}{a:Addr}{xs ys:List V}
theorem dX.of {K:PySem.W.Frag}(h:H a=some (.lst xs)):dX K H a xs:=.inl (.inl h)
theorem Inv.list (I:Inv X pins σ H s)(h:dX X.K H a xs):∃its:List aC,eG xs its/\PlainL s.heap a its.toArray/\xs.length<=sizeLine:=by
 rcases h with h | ⟨o,its,n,hk,hc,hd,hs,hz,r⟩
 ·obtain⟨z,its,n,r,e⟩:=h.ok I.hok
  exact⟨its,r,⟨_,n,e,rfl,rfl,rfl⟩,z⟩
 ·refine⟨its.toList,r,⟨o,n,I.kIn a o hk,hc,hd,by simpa using hs⟩,?_⟩
  have e:=r.length
  simp only[yF] at e
  omega
theorem Inv.tuple (I:Inv X pins σ H s)(h:KH X.K H a xs):∃its:List aC,eG xs its/\IsTup s.heap a its.toArray/\xs.length<=sizeLine:=by
 rcases h with h | ⟨o,its,n,hk,hc,hs,hz,r⟩
 ·obtain⟨z,its,r,p⟩:=h.ok I.hok
  exact⟨its,r,p,z⟩
 ·refine⟨its.toList,r,⟨o,I.kIn a o hk,hc,n,by simpa using hs⟩,?_⟩
  have e:=r.length
  simp only[yF] at e
  omega
theorem Inv.list_inj (I:Inv X pins σ H s)(h:dX X.K H a xs)(h':dX X.K H a ys):xs=ys:=by
 obtain⟨its,r,⟨o,n,e,_,_,d⟩,_⟩:=I.list h
 obtain⟨its',r',⟨o',n',e',_,_,d'⟩,_⟩:=I.list h'
 rw[e] at e';cases e'
 rw[d] at d'
 injection d' with d1 _
 have:its=its':=by simpa using congrArg Rp d1
 subst this
 exact r.inj r'
theorem Inv.tuple_inj (I:Inv X pins σ H s)(h:KH X.K H a xs)(h':KH X.K H a ys):xs=ys:=by
 obtain⟨its,r,⟨o,e,_,n,d⟩,_⟩:=I.tuple h
 obtain⟨its',r',⟨o',e',_,n',d'⟩,_⟩:=I.tuple h'
 rw[e] at e';cases e'
 rw[d] at d'
 injection d' with d1 _
 have:its=its':=by simpa using congrArg Rp d1
 subst this
 exact r.inj r'
end
abbrev Cx.wish (X:Cx)(E:aC->aI->Prop):Cx:={ X with xe:=E }
abbrev Cx.nox (X:Cx):Cx:=X.wish λ_ _=>False
theorem Cx.Ok.wish {X:Cx}(ok:X.Ok)(E:aC->aI->Prop):(X.wish E).Ok:=
 ⟨ok.mod,ok.kind,ok.glob,ok.blt,ok.above,ok.inj,ok.has,ok.cab,ok.hd,ok.frames,ok.stk,ok.exf,ok.bs,ok.bsz,ok.noex,ok.exfs,ok.funs,ok.frf⟩
theorem Cx.Ok.unwish {X:Cx}{E:aC->aI->Prop}(ok:(X.wish E).Ok):X.Ok:=
 ⟨ok.mod,ok.kind,ok.glob,ok.blt,ok.above,ok.inj,ok.has,ok.cab,ok.hd,ok.frames,ok.stk,ok.exf,ok.bs,ok.bsz,ok.noex,ok.exfs,ok.funs,ok.frf⟩
section
variable {X:Cx}{pins:List (Addr×Obj)}{σ:St}{H:Hp}{s:aI}{E:aC->aI->Prop}
theorem Inv.wish (I:Inv X pins σ H s)(E:aC->aI->Prop):Inv (X.wish E) pins σ H s:=⟨I.ok.wish E,I.os,I.bare,I.base,I.loc,I.cell,I.free,I.freeC,I.pin,I.hok,I.len⟩
theorem Inv.unwish (I:Inv (X.wish E) pins σ H s):Inv X pins σ H s:=⟨I.ok.unwish,I.os,I.bare,I.base,I.loc,I.cell,I.free,I.freeC,I.pin,I.hok,I.len⟩
theorem SP.unwish {D:DA}{f:Flow}{s':aI}(h:SP (X.wish E) pins D f s'):SP X pins D f s':=by
 cases f with
 | next=>obtain⟨σ',H',I,q⟩:=h;exact⟨σ',H',I.unwish,q⟩
 | brk=>obtain⟨σ',H',I,q⟩:=h;exact⟨σ',H',I.unwish,q⟩
 | cont=>obtain⟨σ',H',I,q⟩:=h;exact⟨σ',H',I.unwish,q⟩
 | ret u=>obtain⟨v,σ',H',I,r,q⟩:=h;exact⟨v,σ',H',I.unwish,r,q⟩
theorem Ri.nox {st:List Stmt}{t:TS}(h:Ri X.nox st t):Ri X st t:=λpins s σ H D I hw=>
 jD (h pins s σ H D (I.wish _) hw) (λ_ _ q=>q.unwish) λ_ _ z=>fS z
end
section
variable {X:Cx}{st:Stmt}{uL:List Stmt}{t u:TS}{e:Expr}{te:TE}{pos:Pos}
def Aq:TS:=λD σ H=>D.nx σ H
def Sb (t u:TS):TS:=λD σ H=>t { D with nx:=u D } σ H
theorem dN:Ri X [] Aq:=λ_ _ σ H _ I h=>RF ⟨σ,H,I,h⟩
theorem aO (h1:PS X st t)(h2:Ri X uL u):Ri X (st::uL) (Sb t u):=by
 intro pins s σ H D I h
 refine wpAny_execs_cons (kC (h1 pins s σ H { D with nx:=u D } I h) λf s1 q=> ?_)
 cases f with
 | next=>
  obtain⟨σ',H',I',q⟩:=q
  exact h2 pins s1 σ' H' D I' q
 | ret v=>exact q
 | brk=>exact q
 | cont=>exact q
theorem aS (h1:PS X st t):Ri X [st] t:=by
 intro pins s σ H D I h
 refine wpAny_execs_cons (kC (h1 pins s σ H D I h) λf s1 q=> ?_)
 cases f with
 | next=>exact RF q
 | ret v=>exact q
 | brk=>exact q
 | cont=>exact q
def Vv:TS:=λD σ H=>D.bk σ H
theorem Wl:PS X (.Break pos) Vv:=λ_ _ σ H _ I h=>wpAny_Break ⟨σ,H,I,h⟩
theorem Inv.quiet {pins:List (Addr×Obj)}{σ:St}{H:Hp}{s:aI}(I:Inv X pins σ H s):interactive X.env=false:=by simp[interactive,I.ok.kind]
def x9 (te:TE):TS:=λD σ H=>te σ H λ_ H1=>D.nx σ H1
theorem sJ (he:PE X e te)(hs:swapsWith e none pos.line X.env=pure false:=by rfl):PS X (.Expr e pos) (x9 te):=by
 intro pins s σ H D I h
 exact wpAny_Expr_any (kC (he pins s σ H _ I h) λv s1 ⟨x,H1,I1,r1,q1⟩=>⟨σ,H1,I1,q1⟩) I.quiet hs
def Zy (te:TE):TS:=λD σ H=>te σ H D.rt
theorem bU (he:PE X e te):PS X (.Return (some e) pos) (Zy te):=by
 intro pins s σ H D I h
 exact wpAny_Return_some (kC (he pins s σ H _ I h) λv s1 ⟨x,H1,I1,r1,q1⟩=>⟨x,σ,H1,I1,r1,q1⟩)
def Lr (c:TT)(t u:TS):TS:=λD σ H=>c σ H λb H1=>if b=true then t D σ H1 else u D σ H1
theorem gC {c:Expr}{a b:List Stmt}{tc:TT}(hc:PT X c tc)(ha:Ri X a t)(hb:Ri X b u):PS X (.If c a b pos) (Lr tc t u):=by
 intro pins s σ H D I h
 refine wpAny_If (kC (hc pins s σ H _ I h) λd s1 ⟨H1,I1,q1⟩=> ?_)
 cases d with
 | true=>exact ha pins s1 σ H1 D I1 q1
 | false=>exact hb pins s1 σ H1 D I1 q1
end
abbrev TG:=V->St->Hp->(St->Hp->Prop)->Prop
abbrev A5:=List V->St->Hp->(St->Hp->Prop)->Prop
def PG (X:Cx)(target:Expr)(t:TG):Prop:=
 ∀(pins:List (Addr×Obj)) (s:aI) (σ:St) (H:Hp) (v:V) (u:aC) (Q:St->Hp->Prop),Inv X pins σ H s->RelV v u->t v σ H Q->
  wpAny (model X.prog X.w) X.A (assign target X.env u) (λ_ s'=>∃σ' H',Inv X pins σ' H' s'/\Q σ' H') X.xe s
def W9 (X:Cx)(ts:List Expr)(t:A5):Prop:=
 ∀(pins:List (Addr×Obj)) (s:aI) (σ:St) (H:Hp) (vs:List V) (us:List aC) (Q:St->Hp->Prop),Inv X pins σ H s->eG vs us->t vs σ H Q->
  wpAny (model X.prog X.w) X.A (assignInOrder ((assignEach ts X.env).map (·.2)) us) (λ_ s'=>∃σ' H',Inv X pins σ' H' s'/\Q σ' H') X.xe s
abbrev M7:=V->V->V->Hp->(Hp->Prop)->Prop
def W7 (X:Cx)(t:M7):Prop:=
 ∀(pins:List (Addr×Obj)) (s:aI) (σ:St) (H:Hp) (o i v:V) (ov iv u:aC) (Q:Hp->Prop),Inv X pins σ H s->RelV o ov->RelV i iv->RelV v u->t o i v H Q->
  wpAny (model X.prog X.w) X.A (setItem ov iv u) (λ_ s'=>∃H',Inv X pins σ H' s'/\Q H') X.xe s
section
variable {X:Cx}{pos:Pos}
def GU (i:Nat):TG:=λv σ H Q=>Q (σ.set i (some v)) H
theorem dG {i:Nat}{x:Str}(hN:X.N.Nodup)(hi:X.N[i]? =some x)(hx:Z5 X.env.scope x)(hf:X.fn x=true\/X.env.scope.names.lookup x=some .local:=by first | exact .inl rfl | exact .inr rfl | assumption):PG X (.Name x pos) (GU i):=by
 intro pins s σ H v u Q I r h
 exact dh (Hf I hN hi hx r (λs' I'=>⟨_,H,I',h⟩) hf)
def U9:A5:=λvs σ H Q=>vs=[]/\Q σ H
def Ye (t:TG)(u:A5):A5:=λvs σ H Q=>∃v r,vs=v::r/\t v σ H λσ' H'=>u r σ' H' Q
theorem wG:W9 X [] U9:=by
 intro pins s σ H vs us Q I r h
 obtain⟨e,h⟩:=h
 subst e
 cases r
 exact assignInOrder_nil ⟨σ,H,I,h⟩
theorem iS {e:Expr}{es:List Expr}{t:TG}{u:A5}(h1:PG X e t)(h2:W9 X es u)
  (hs:(assignEach (e::es) X.env).map (·.2)=assign e X.env::(assignEach es X.env).map (·.2):=by rfl):W9 X (e::es) (Ye t u):=by
 intro pins s σ H vs us Q I r h
 obtain⟨v,vr,e1,h⟩:=h
 subst e1
 cases r with
 | cons r rr=>
  rw[hs]
  refine assignInOrder_cons (kC (h1 pins s σ H _ _ _ I r h) λ_ s1 ⟨σ1,H1,I1,q1⟩=> ?_)
  exact h2 pins s1 σ1 H1 _ _ Q I1 rr q1
def I0 (K:PySem.W.Frag)(n:Nat)(t:A5):TG:=λv σ H Q=>∃a xs,v=.ref a/\KH K H a xs/\xs.length=n/\t xs σ H Q
theorem WG {es:List Expr}{k:Nat}{t:A5}{n:Nat}(hc:X.calm=true)(h:W9 X es t)
  (hn:(assignEach es X.env).length=n:=by rfl) (hst:(assignEach es X.env).findIdx? (·.1)=none:=by rfl):PG X (.Tuple es k pos) (I0 X.K n t):=by
 intro pins s σ H v u Q I r hw
 obtain⟨a,xs,e1,hq,hl,hw⟩:=hw
 subst e1
 cases r
 obtain⟨its,rv,ht,hz⟩:=I.tuple hq
 refine assign_Tuple_tuple (I.ok.hd hc) ht (by simp[hn, <-hl,rv.length]) hst λh' hx=> ?_
 have I1:Inv X pins σ H { s with heap:=h' }:=I.kept (t':=s.toks) λb o e=>hx b o (cJ (bD e)) e
 exact h pins _ σ H xs _ Q I1 (by simpa using rv) hw
def J9 (to ti:TE)(t:M7):TG:=λv σ H Q=>to σ H λo H1=>ti σ H1 λi H2=>t o i v H2 λH3=>Q σ H3
theorem Wq {o i:Expr}{to ti:TE}{t:M7}(ho:PE X o to)(hi:PE X i ti)(hs:W7 X t)
  (ha:∀v,assign (.Subscript o i pos) X.env v=(do
   let ov <-holding [v] (eval o X.env)
   let iv <-holding [v,ov] (eval i X.env)
   standAt pos
   holding [v,ov,iv] (setItem ov iv v)
   release [v,ov,iv] []):=by intro _;rfl):PG X (.Subscript o i pos) (J9 to ti t):=by
 intro pins s σ H v u Q I r h
 rw[ha]
 refine aD (lS (kC (ho pins s σ H _ I h) λov s1 ⟨x,H1,I1,r1,q1⟩=> ?_))
 refine aD (lS (kC (hi pins s1 σ H1 _ I1 q1) λiv s2 ⟨y,H2,I2,r2,q2⟩=> ?_))
 refine aD (Zl (aD (lS (kC (hs pins s2 σ H2 x y v ov iv u _ I2 r1 r2 r q2) λ_ s3 ⟨H3,I3,q3⟩=> ?_))))
 exact wpAny_release ⟨σ,H3,I3,q3⟩
def Vw (te:TE)(g:TG):TS:=λD σ H=>te σ H λx H1=>g x σ H1 D.nx
theorem Wm {tg e:Expr}{te:TE}{g:TG}(he:PE X e te)(hg:PG X tg g)(hs:swapsWithSole [tg] e pos.line X.env=pure false:=by rfl)(hw:swappedStores [tg] e X.env=pure none:=by rfl)
  (h1:(assignEach [tg] X.env).map (·.2)=[assign tg X.env]:=by rfl):PS X (.Assign [tg] e pos) (Vw te g):=by
 intro pins s σ H D I h
 refine wpAny_Assign_stores (kC (he pins s σ H _ I h) λv s1 ⟨x,H1,I1,r1,q1⟩=> ?_) hs hw
 rw[h1]
 exact kC (hg pins s1 σ H1 x v _ I1 r1 q1) λ_ s2 q=>q
theorem dJ {i:Nat}{x:Str}{e:Expr}{te:TE}{pos':Pos}(hN:X.N.Nodup)(hi:X.N[i]? =some x)(hx:Z5 X.env.scope x)(he:PE X e te)(hs:swapsWith e (some (.Name x pos')) pos.line X.env=pure false:=by rfl)(hf:X.fn x=true\/X.env.scope.names.lookup x=some .local:=by first | exact .inl rfl | exact .inr rfl | assumption):
  PS X (.Assign [.Name x pos'] e pos) (Vw te (GU i)):=by
 intro pins s σ H D I h
 refine wpAny_Assign_Name (kC (he pins s σ H _ I h) λv s1 ⟨y,H1,I1,r1,q1⟩=> ?_) hs
 exact Hf I1 hN hi hx r1 (λs2 I2=>⟨_,H1,I2,q1⟩) hf
end
section
variable {X:Cx}{pos:Pos}
def C2 (c:TT)(tb:TS):TS:=λD σ H=>∃W:Nat->St->Hp->Prop,(∃m,W m σ H)/\∀m σ H,W m σ H->
 c σ H λb H1=>if b=true then∃N:St->Hp->Prop,(∀σ' H',N σ' H'->∃m',m' < m/\W m' σ' H')/\tb { D with nx:=N,ct:=N,bk:=D.nx } σ H1 else D.nx σ H1
theorem Ie {c:Expr}{body:List Stmt}{tc:TT}{tb:TS}(hp:PassesOwn (model X.prog X.w) X.A X.env X.xe)(hc:PT X c tc)(hb:Ri X body tb):PS X (.While c body [] pos) (C2 tc tb):=by
 intro pins s σ H D I h
 obtain⟨W,⟨m0,w0⟩,turn⟩:=h
 refine wpAny_While (codeAny_whileLoop (λn s'=>∃σ' H',Inv X pins σ' H' s'/\W n σ' H') ?_ m0 ⟨σ,H,I,w0⟩)
 rintro n s1 ⟨σ1,H1,I1,w1⟩
 refine pS hp (kC (hc pins s1 σ1 H1 _ I1 (turn n σ1 H1 w1)) λb s2 ⟨H2,I2,q2⟩=> ?_)
 cases b with
 | true=>
  obtain⟨N,hN,q2⟩:=q2
  rw[if_pos rfl]
  refine pS hp (kC (hb pins s2 σ1 H2 _ I2 q2) λf s3 q3=> ?_)
  cases f with
  | next=>
   obtain⟨σ3,H3,I3,n3⟩:=q3
   obtain⟨m',hm,w3⟩:=hN σ3 H3 n3
   exact⟨m',hm,σ3,H3,I3,w3⟩
  | cont=>
   obtain⟨σ3,H3,I3,n3⟩:=q3
   obtain⟨m',hm,w3⟩:=hN σ3 H3 n3
   exact⟨m',hm,σ3,H3,I3,w3⟩
  | brk=>exact q3
  | ret v=>exact q3
 | false=>
  rw[if_neg bP]
  exact RF ⟨σ1,H2,I2,q2⟩
end
structure It where
 go:Nat->Hp->Prop
 yld:Nat->Hp->V->Hp->Prop
 stop:Nat->Hp->Prop
def MC (X:Cx)(pins:List (Addr×Obj))(H:Hp)(b:Addr):Prop:=
 H b=none/\b≠X.env.locals/\b ∉ X.fs/\(b∈X.ex\/X.s_0.heap.objs.size<=b)/\(∀x c,X.env.cells.lookup x=some c->c≠b)/\∀p∈X.pn++pins,p.1≠b
theorem Inv.fpOk {X:Cx}{pins:List (Addr×Obj)}{σ:St}{H H':Hp}{s:aI}{b:Addr}(I:Inv X pins σ H s)(hb:s.heap.objs.size<=b)(hn:H' b=none):MC X pins H' b:=by
 refine⟨hn,oO (bW I.lt hb),I.nofs hb,.inr (cV I.sz hb),λx c e z=> ?_,λp hp z=> ?_⟩
 ·obtain⟨v,q⟩:=I.cell x c e
  exact absurd (bW q.lt (by rw[z];exact hb)) (fV _)
 ·exact absurd (bW (bD (I.pin p hp).1) (by rw[z];exact hb)) (fV _)
structure YJ (P:bS)(w:cY)(K:PySem.W.Frag)(tg:Expr)(J:It)(fp:List Addr)(it:Addr)(tn:Nat->Heap->Prop):Prop where
 mem:it∈fp
 obj:∀i h,tn i h->∀b∈fp,∃o,h.get? b=some o/\∀v,o.data≠ .cell v
 keep:∀i h h',tn i h->(∀b∈fp,∀o,h.get? b=some o->h'.get? b=some o)->tn i h'
 item:∀(X:Cx),X.prog=P->X.w=w->X.K=K->X.calm=true->∀(i:Nat) (pins:List (Addr×Obj)) (s:aI) (σ:St) (H:Hp) (E:aC->aI->Prop),Inv X pins σ H s->(∀b∈fp,MC X pins H b)->tn i s.heap->J.go i H->
  wpAny (model P w) X.A (pyNext (.ref it)) (λr s1=>∃u,r=some u/\
   wpAny (model P w) X.A (letOwnedTupleGo tg (.ref it) u) (λ_ s2=>∃x H',Inv X pins σ H' s2/\RelV x u/\J.yld i H x H'/\tn (i+1) s2.heap/\∀b∈fp,H' b=none) E s1) E s
 done:∀(X:Cx),X.prog=P->X.w=w->X.K=K->X.calm=true->∀(i:Nat) (pins:List (Addr×Obj)) (s:aI) (σ:St) (H:Hp) (E:aC->aI->Prop),Inv X pins σ H s->(∀b∈fp,MC X pins H b)->tn i s.heap->J.stop i H->
  wpAny (model P w) X.A (pyNext (.ref it)) (λr s1=>r=none/\Inv X pins σ H s1) E s
 self:∀(A:dZ) (i:Nat) (s:aI) (Q:aC->aI->Prop) (E:aC->aI->Prop),tn i s.heap->Q (.ref it) s->wpAny (model P w) A (pyIter (.ref it)) Q E s
abbrev TI:=St->Hp->(It->Hp->Prop)->Prop
def Z2 (X:Cx)(pins:List (Addr×Obj))(σ:St)(tg:Expr)(R:It->Hp->Prop)(itv:aC)(s2:aI):Prop:=
 ∃(it:Addr) (fp:List Addr) (tn:Nat->Heap->Prop) (J:It) (H':Hp),itv=.ref it/\Inv X pins σ H' s2/\YJ X.prog X.w X.K tg J fp it tn/\tn 0 s2.heap/\(∀b∈fp,MC X pins H' b)/\R J H'
def PI (X:Cx)(tg iter:Expr)(wi:TI):Prop:=
 ∀(pins:List (Addr×Obj)) (s:aI) (σ:St) (H:Hp) (R:It->Hp->Prop),Inv X pins σ H s->wi σ H R->
  wpAny (model X.prog X.w) X.A (eval iter X.env) (λv s1=>wpAny (model X.prog X.w) X.A (pyIter v) (Z2 X pins σ tg R) X.xe s1) X.xe s
theorem Jm {M:dr}{A:dZ}{E:aC->aI->Prop}{s:aI}{tg:Expr}{it:Addr}{u:aC}{o:Obj}{n:String}{vs:Array aC}{Q:Unit->aI->Prop}(ho:s.heap.get? it=some o)(hc:o.cls=.type n)(hd:o.data=.fields vs)
  (hn:["enumerate","zip","dict_itemiterator","dict_reverseitemiterator","odict_iterator","itertools.zip_longest","itertools.pairwise"].contains n=false) (hQ:Q () s):wpAny M A (letOwnedTupleGo tg (.ref it) u) Q E s:=by
 unfold letOwnedTupleGo
 cases tg <;> first
  | exact bC hQ
  | (cases u <;> first
    | exact bC hQ
    | (refine aD (wpAny_load ho ?_);rw[hc,hd];show wpAny M A (if(["enumerate","zip","dict_itemiterator","dict_reverseitemiterator","odict_iterator","itertools.zip_longest","itertools.pairwise"].contains n&&vs[0]? ==some (rawInt _))=true then _ else _) Q E s;rw[if_neg (by intro h;rw[hn,Kp] at h;cases h)];exact bC hQ))
def B5 (K:PySem.W.Frag)(a:Addr):It:=
 ⟨λi H=>∃xs x,dX K H a xs/\xs[i]? =some x,λi H x H'=>H'=H/\∀xs,dX K H a xs->xs[i]? =some x,λi H=>∃xs,dX K H a xs/\xs.length<=i⟩
def Itt (K:PySem.W.Frag)(a:Addr):It:=
 ⟨λi H=>∃xs x,KH K H a xs/\xs[i]? =some x,λi H x H'=>H'=H/\∀xs,KH K H a xs->xs[i]? =some x,λi H=>∃xs,KH K H a xs/\xs.length<=i⟩
def Us (lo:Int)(n:Nat):It:=⟨λi _=>i < n,λi H x H'=>H'=H/\x=.int (lo+i),λi _=>n<=i⟩
theorem Rv {P:bS}{w:cY}{K:PySem.W.Frag}{tg:Expr}(a it:Addr):YJ P w K tg (B5 K a) [it] it (λi h=>h.IsListIter it a i) where
 mem:=by simp
 obj:=λi h st b hb=>by
  have e:b=it:=by simpa using hb
  subst e
  obtain⟨o,e,c,d⟩:=st
  exact⟨o,e,λv z=>by rw[d] at z;cases z⟩
 keep:=λi h h' st k=>st.at λo e=>k it (by simp) o e
 item:=by
  intro X hP hw hK hc i pins s σ H E I hf st hg
  subst hP hw hK
  obtain⟨xs,x,hq,hx⟩:=hg
  obtain⟨its,rv,p,hz⟩:=I.list hq
  obtain⟨u,hu,ru⟩:=rv.get hx
  obtain⟨f0,f1,f2,f3,f4,f5⟩:=hf it (by simp)
  refine wpAny_pyNext_list_item st p.isList (x:=u) (by simpa using hu) λh' st' sb=> ?_
  have I1:Inv X pins σ H { s with heap:=h' }:=I.turned (t':=s.toks) (λb o hb e=>(sb.2 b hb).trans e) f0 f1 f3 f4 f5
  obtain⟨o,e,c,d⟩:=id st'
  exact⟨u,rfl,Jm (s:={ s with heap:=h' }) e c d (by decide) ⟨x,H,I1,ru,⟨rfl,λys hy=>by rw[I.list_inj hy hq];exact hx⟩,st',λb hb=>(hf b hb).1⟩⟩
 done:=by
  intro X hP hw hK hc i pins s σ H E I hf st hg
  subst hP hw hK
  obtain⟨xs,hq,hx⟩:=hg
  obtain⟨its,rv,p,hz⟩:=I.list hq
  obtain⟨f0,f1,f2,f3,f4,f5⟩:=hf it (by simp)
  have hl:=rv.length
  exact wpAny_pyNext_list_end (I.ok.hd hc) st p.isList (by simp;omega) λh' eb=>⟨rfl,I.turned (t':=s.toks) (λb o hb e=>eb b o hb e) f0 f1 f3 f4 f5⟩
 self:=λ_ _ _ _ _ st h=>wpAny_pyIter_listiter st h
theorem Lk {P:bS}{w:cY}{K:PySem.W.Frag}{tg:Expr}(a it:Addr):YJ P w K tg (Itt K a) [it] it (λi h=>h.IsTupleIter it a i) where
 mem:=by simp
 obj:=λi h st b hb=>by
  have e:b=it:=by simpa using hb
  subst e
  obtain⟨o,e,c,d⟩:=st
  exact⟨o,e,λv z=>by rw[d] at z;cases z⟩
 keep:=λi h h' st k=>st.at λo e=>k it (by simp) o e
 item:=by
  intro X hP hw hK hc i pins s σ H E I hf st hg
  subst hP hw hK
  obtain⟨xs,x,hq,hx⟩:=hg
  obtain⟨its,rv,p,hz⟩:=I.tuple hq
  obtain⟨u,hu,ru⟩:=rv.get hx
  obtain⟨f0,f1,f2,f3,f4,f5⟩:=hf it (by simp)
  refine wpAny_pyNext_tuple_item st (show s.heap.IsTuple a its.toArray from p) (x:=u) (by simpa using hu) λh' st' sb=> ?_
  have I1:Inv X pins σ H { s with heap:=h' }:=I.turned (t':=s.toks) (λb o hb e=>(sb.2 b hb).trans e) f0 f1 f3 f4 f5
  obtain⟨o,e,c,d⟩:=id st'
  exact⟨u,rfl,Jm (s:={ s with heap:=h' }) e c d (by decide) ⟨x,H,I1,ru,⟨rfl,λys hy=>by rw[I.tuple_inj hy hq];exact hx⟩,st',λb hb=>(hf b hb).1⟩⟩
 done:=by
  intro X hP hw hK hc i pins s σ H E I hf st hg
  subst hP hw hK
  obtain⟨xs,hq,hx⟩:=hg
  obtain⟨its,rv,p,hz⟩:=I.tuple hq
  obtain⟨f0,f1,f2,f3,f4,f5⟩:=hf it (by simp)
  have hl:=rv.length
  exact wpAny_pyNext_tuple_end (I.ok.hd hc) st (show s.heap.IsTuple a its.toArray from p) (by simp;omega) λh' eb=>⟨rfl,I.turned (t':=s.toks) (λb o hb e=>eb b o hb e) f0 f1 f3 f4 f5⟩
 self:=λ_ _ _ _ _ st h=>wpAny_pyIter_tupleiter st h
theorem Ll {P:bS}{w:cY}{K:PySem.W.Frag}{tg:Expr}(it:Addr)(lo:Int)(n:Nat):YJ P w K tg (Us lo n) [it] it (λi h=>IsRangeIter h it (lo+(i:Nat) * 1) ((n:Int) - (i:Nat)) 1) where
 mem:=by simp
 obj:=λi h st b hb=>by
  have e:b=it:=by simpa using hb
  subst e
  exact⟨_,st,λv z=>by
   have z':Data.fields _=Data.cell v:=z
   cases z'⟩
 keep:=λi h h' st k=>k it (by simp) _ st
 item:=by
  intro X hP hw hK hc i pins s σ H E I hf st hg
  subst hP hw hK
  obtain⟨f0,f1,f2,f3,f4,f5⟩:=hf it (by simp)
  have W:=Walks.range (prog:=X.prog) (w:=X.w) (I.ok.hd hc) it lo 1 n
  refine W.item i s _ _ hg st λv h' tk hv st' kk=> ?_
  obtain⟨t,rfl⟩:=hv
  have I1:Inv X pins σ H { s with heap:=h',toks:=tk }:=I.turned (λb o hb e=>kk b o (by simpa using hb) e) f0 f1 f3 f4 f5
  refine⟨_,rfl,Jm (s:={ s with heap:=h',toks:=tk }) (n:="range_iterator") st' rfl rfl (by decide) ⟨.int (lo+i),H,I1,⟨t,?_⟩,⟨rfl,rfl⟩,st',λb hb=>(hf b hb).1⟩⟩
  rw[Zp]
 done:=by
  intro X hP hw hK hc i pins s σ H E I hf st hg
  subst hP hw hK
  obtain⟨f0,f1,f2,f3,f4,f5⟩:=hf it (by simp)
  exact wpAny_pyNext_range_end (I.ok.hd hc) st (by have:n<=i:=hg;omega) λh' eb=>⟨rfl,I.turned (t':=s.toks) (λb o hb e=>eb b o hb e) f0 f1 f3 f4 f5⟩
 self:=λ_ _ _ _ _ st h=>wpAny_pyIter_rangeiter st h
end L2
namespace L2
open PySem PySem.Spec PyProof.Rows
section
variable {X:Cx}{tg:Expr}
def Cc (K:PySem.W.Frag)(tl:TE):TI:=λσ H R=>tl σ H λx H1=>∃a,x=.ref a/\(∃xs,dX K H1 a xs)/\R (B5 K a) H1
def U7 (K:PySem.W.Frag)(tl:TE):TI:=λσ H R=>tl σ H λx H1=>∃a,x=.ref a/\(∃xs,KH K H1 a xs)/\R (Itt K a) H1
theorem iY {l:Expr}{tl:TE}(hl:PE X l tl):PI X tg l (Cc X.K tl):=by
 intro pins s σ H R I h
 refine kC (hl pins s σ H _ I h) λv s1 ⟨x,H1,I1,r1,q1⟩=> ?_
 obtain⟨a,e,⟨xs,hq⟩,q⟩:=q1
 subst e
 cases r1
 obtain⟨its,rv,p,hz⟩:=I1.list hq
 refine xB p.isList ?_
 refine⟨s1.heap.objs.size,[s1.heap.objs.size],_,_,H1,rfl,I1.kept (t':=s1.toks) λb o e=>aG _ e,Rv a _,⟨_,bF _ rfl,rfl,rfl⟩,λb hb=> ?_,q⟩
 have e:b=s1.heap.objs.size:=by simpa using hb
 subst e
 exact I1.fpOk (aU _) (I1.hok.fresh (aU _))
theorem E3 {l:Expr}{tl:TE}(hl:PE X l tl):PI X tg l (U7 X.K tl):=by
 intro pins s σ H R I h
 refine kC (hl pins s σ H _ I h) λv s1 ⟨x,H1,I1,r1,q1⟩=> ?_
 obtain⟨a,e,⟨xs,hq⟩,q⟩:=q1
 subst e
 cases r1
 obtain⟨its,rv,p,hz⟩:=I1.tuple hq
 refine Y4 (show s1.heap.IsTuple a its.toArray from p) ?_
 refine⟨s1.heap.objs.size,[s1.heap.objs.size],_,_,H1,rfl,I1.kept (t':=s1.toks) λb o e=>aG _ e,Lk a _,⟨_,bF _ rfl,rfl,rfl⟩,λb hb=> ?_,q⟩
 have e:b=s1.heap.objs.size:=by simpa using hb
 subst e
 exact I1.fpOk (aU _) (I1.hok.fresh (aU _))
theorem Hy {pins:List (Addr×Obj)}{σ:St}{H:Hp}{s:aI}{R:It->Hp->Prop}{E:aC->aI->Prop}{lo hi:Int}{t u v:Tok}{tk:Nat}(I:Inv X pins σ H s)(h1: -(2 ^ 62)<=lo)(h2:lo < 2 ^ 62)(h3: -(2 ^ 62)<=hi)(h4:hi < 2 ^ 62)
  (q:R (Us lo (hi - lo).toNat) H):wpAny (model X.prog X.w) X.A (pyIter (.ref s.heap.objs.size)) (Z2 X pins σ tg R) E { s with heap:=s.heap.push { cls:=.type "range",data:=.fields #[.int lo t,.int hi u,.int 1 v] },toks:=tk }:=by
 refine wpAny_pyIter_range (IsRange.new ..) (small_one h1 h2 h3 h4) ?_
 have I1:Inv X pins σ H { s with heap:=s.heap.push { cls:=.type "range",data:=.fields #[.int lo t,.int hi u,.int 1 v] },toks:=tk }:=I.kept λb o e=>aG _ e
 refine⟨(s.heap.push { cls:=.type "range",data:=.fields #[.int lo t,.int hi u,.int 1 v] }).objs.size,[(s.heap.push { cls:=.type "range",data:=.fields #[.int lo t,.int hi u,.int 1 v] }).objs.size],_,_,H,rfl,
  I1.kept (t':=tk) λb o e=>aG _ e,Ll _ lo (hi - lo).toNat,?_,λb hb=> ?_,q⟩
 ·have e1:lo+((0:Nat):Int) * 1=lo:=by simp
  have e2:(((hi - lo).toNat:Nat):Int) - ((0:Nat):Int)=Builtin.Range.rangeSize lo hi 1:=by rw[rangeSize_one];split <;> omega
  show IsRangeIter _ _ (lo+((0:Nat):Int) * 1) ((((hi - lo).toNat:Nat):Int) - ((0:Nat):Int)) 1
  rw[e1,e2]
  exact bF _ rfl
 ·have e:b=(s.heap.push { cls:=.type "range",data:=.fields #[.int lo t,.int hi u,.int 1 v] }).objs.size:=by simpa using hb
  subst e
  exact I1.fpOk (aU _) (I1.hok.fresh (aU _))
def Ql (ta:TA):TI:=λσ H R=>ta σ H λvs H1=>∃j:Int,vs=[.int j]/\ -(2 ^ 62)<=j/\j < 2 ^ 62/\R (Us 0 j.toNat) H1
def Xx (ta:TA):TI:=λσ H R=>ta σ H λvs H1=>∃i j:Int,vs=[.int i,.int j]/\(-(2 ^ 62)<=i/\i < 2 ^ 62/\ -(2 ^ 62)<=j/\j < 2 ^ 62)/\R (Us i (j - i).toNat) H1
theorem tX {a:Expr}{ta:TA}{p pos:Pos}(hg:Gl X "range")(hm:X.mg "range"=none)(ha:PA X [a] ta)(hs:starEach [a] X.env=[(false,eval a X.env)]:=by rfl):PI X tg (.Call (.Name "range" p) [a] [] pos) (Ql ta):=by
 intro pins s σ H R I h
 refine P5 (xO I hg hm boot_range (eS (kC (ha pos pins s σ H _ I h) λus s1 ⟨vs,H1,I1,r1,q1⟩=> ?_) hs rfl))
 obtain⟨j,e,q1,q2,q⟩:=q1
 subst e
 cases r1 with
 | cons r rr=>
  cases rr
  obtain⟨t,rfl⟩:=r
  exact call_range_1 (Hy I1 (by omega) (by omega) q1 q2 (by simpa using q))
theorem Bl {a b:Expr}{ta:TA}{p pos:Pos}(hg:Gl X "range")(hm:X.mg "range"=none)(ha:PA X [a,b] ta)(hs:starEach [a,b] X.env=[(false,eval a X.env),(false,eval b X.env)]:=by rfl)(hs2:starEach [b] X.env=[(false,eval b X.env)]:=by rfl):
  PI X tg (.Call (.Name "range" p) [a,b] [] pos) (Xx ta):=by
 intro pins s σ H R I h
 refine P5 (xO I hg hm boot_range (eS (kC (ha pos pins s σ H _ I h) λus s1 ⟨vs,H1,I1,r1,q1⟩=> ?_) (by rw[hs,hs2]) (by rw[hs2];rfl)))
 obtain⟨i,j,e,⟨q1,q2,q3,q4⟩,q⟩:=q1
 subst e
 cases r1 with
 | cons r rr=>
  cases rr with
  | cons r' rr=>
   cases rr
   obtain⟨t,rfl⟩:=r
   obtain⟨t',rfl⟩:=r'
   exact call_range_2 (Hy I1 q1 q2 q3 q4 q)
def ZJ (wi:TI)(g:TG)(tb:TS):TS:=λD σ H=>wi σ H λJ H1=>∃W:Nat->Nat->St->Hp->Prop,(∃m,W 0 m σ H1)/\∀i m σ H,W i m σ H->
 (J.stop i H/\D.nx σ H)\/(J.go i H/\∃N:St->Hp->Prop,(∀σ' H',N σ' H'->∃m',m' < m/\W (i+1) m' σ' H')/\∀x H',J.yld i H x H'->g x σ H' λσ2 H2=>tb { D with nx:=N,ct:=N,bk:=D.nx } σ2 H2)
def WE (fp:List Addr)(h:Heap):List (Addr×Obj):=fp.filterMap λb=>(h.get? b).map λo=>(b,o)
theorem LM {fp:List Addr}{h:Heap}{b:Addr}{o:Obj}(hb:b∈fp)(e:h.get? b=some o):(b,o)∈WE fp h:=lO.mpr ⟨b,hb,by rw[e];rfl⟩
theorem Sn {fp:List Addr}{h:Heap}{p:Addr×Obj}(hp:p∈WE fp h):p.1∈fp/\h.get? p.1=some p.2:=by
 obtain⟨b,hb,e⟩:=lO.mp hp
 cases q:h.get? b with
 | none=>rw[q] at e;cases e
 | some o=>
  rw[q] at e
  have e':(b,o)=p:=cX e
  subst e'
  exact⟨hb,q⟩
theorem Inv.pinned {pins:List (Addr×Obj)}{σ:St}{H:Hp}{s:aI}{fp:List Addr}(I:Inv X pins σ H s)(hf:∀b∈fp,MC X pins H b)(ho:∀b∈fp,∃o,s.heap.get? b=some o/\∀v,o.data≠ .cell v):Inv X (pins++WE fp s.heap) σ H s:=
 I.pins_of λp hp=>(cW.mp hp).elim (λz=>I.pin p (dF _ z)) λz=>by
  obtain⟨hb,e⟩:=Sn z
  obtain⟨f0,f1,f2,_⟩:=hf p.1 hb
  obtain⟨o,e',d⟩:=ho p.1 hb
  rw[e] at e';cases e'
  exact⟨e,f0,f1,f2,d⟩
theorem Inv.unpinned {pins pl:List (Addr×Obj)}{σ:St}{H:Hp}{s:aI}(I:Inv X (pins++pl) σ H s):Inv X pins σ H s:=I.pins_of λp hp=>I.pin p (dF _ (iG _ hp))
theorem tW {iter:Expr}{body:List Stmt}{wi:TI}{g:TG}{tb:TS}{pos:Pos}(hp:PassesOwn (model X.prog X.w) X.A X.env X.xe)(hc:X.calm=true)(hi:PI X tg iter wi)(hg:PG X tg g)(hb:Ri X body tb)
  (hs:∀x,foldedSetIterable iter X.env x=pure x:=by intro _;rfl):PS X (.For tg iter body [] pos) (ZJ wi g tb):=by
 intro pins s σ H D I h
 refine wpAny_For (kC (hi pins s σ H _ I h) λv s1 h1=>kC h1 λitv s2 h2=> ?_) hs
 obtain⟨it,fp,tn,J,H2,e,I2,T,st2,f2,W,⟨m0,w0⟩,turn⟩:=h2
 subst e
 have stat:∀{H':Hp},(∀b∈fp,H' b=none)->∀b∈fp,MC X pins H' b:=λhn b hb=>⟨hn b hb,(f2 b hb).2⟩
 refine codeAny_forLoop_any (λn s'=>∃i σ' H',Inv X pins σ' H' s'/\tn i s'.heap/\(∀b∈fp,H' b=none)/\W i n σ' H') ?_ m0 ⟨0,σ,H2,I2,st2,λb hb=>(f2 b hb).1,w0⟩
 rintro n s3 ⟨i,σ3,H3,I3,st3,fr3,w3⟩
 rcases turn i n σ3 H3 w3 with⟨stop,qn⟩ | ⟨go,N,hN,step⟩
 ·refine pS hp (kC (T.done X rfl rfl rfl hc i pins s3 σ3 H3 X.xe I3 (stat fr3) st3 stop) λr s4 ⟨hr,I4⟩=> ?_)
  subst hr
  exact RF ⟨σ3,H3,I4,qn⟩
 ·refine pS hp (kC (T.item X rfl rfl rfl hc i pins s3 σ3 H3 X.xe I3 (stat fr3) st3 go) λr s4 ⟨u,hr,h4⟩=> ?_)
  subst hr
  refine pS hp (kC h4 λ_ s5 ⟨x,H5,I5,r5,y5,st5,fr5⟩=> ?_)
  have I5':=I5.pinned (stat fr5) (T.obj _ _ st5)
  refine pS hp (kC (hg _ s5 σ3 H5 x u _ I5' r5 (step x H5 y5)) λ_ s6 ⟨σ6,H6,I6,q6⟩=> ?_)
  refine pS hp (kC (hb _ s6 σ6 H6 _ I6 q6) λf s7 q7=> ?_)
  have again:∀{σ7:St} {H7:Hp},Inv X (pins++WE fp s5.heap) σ7 H7 s7->N σ7 H7->∃m,m < n/\∃i σ' H',Inv X pins σ' H' s7/\tn i s7.heap/\(∀b∈fp,H' b=none)/\W i m σ' H':=λ{σ7 H7} I7 n7=>by
   obtain⟨m',hm,w7⟩:=hN σ7 H7 n7
   refine⟨m',hm,i+1,σ7,H7,I7.unpinned,T.keep _ _ _ st5 λb hb o e=>(I7.pin (b,o) (dF _ (dF _ (LM hb e)))).1,λb hb=> ?_,w7⟩
   obtain⟨o,e,d⟩:=T.obj _ _ st5 b hb
   exact(I7.pin (b,o) (dF _ (dF _ (LM hb e)))).2.1
  cases f with
  | next=>obtain⟨σ7,H7,I7,n7⟩:=q7;exact again I7 n7
  | cont=>obtain⟨σ7,H7,I7,n7⟩:=q7;exact again I7 n7
  | brk=>obtain⟨σ7,H7,I7,q7⟩:=q7;exact⟨σ7,H7,I7.unpinned,q7⟩
  | ret v=>obtain⟨x7,σ7,H7,I7,r7,q7⟩:=q7;exact⟨x7,σ7,H7,I7.unpinned,r7,q7⟩
end
theorem Jn {K:PySem.W.Frag}{a:Addr}{xs:List V}{g:TG}{tb:TS}{D:DA}{σ:St}{H:Hp}(Pv:Nat->St->Hp->Prop)(h0:Pv 0 σ H)(hl:∀i σ H,i<=xs.length->Pv i σ H->dX K H a xs)
  (hs:∀i x σ H,xs[i]? =some x->Pv i σ H->g x σ H λσ2 H2=>tb { D with nx:=Pv (i+1),ct:=Pv (i+1),bk:=D.nx } σ2 H2) (hd:∀σ H,Pv xs.length σ H->D.nx σ H):
  ∃W:Nat->Nat->St->Hp->Prop,(∃m,W 0 m σ H)/\∀i m σ H,W i m σ H->
   ((B5 K a).stop i H/\D.nx σ H)\/((B5 K a).go i H/\∃N:St->Hp->Prop,(∀σ' H',N σ' H'->∃m',m' < m/\W (i+1) m' σ' H')/\∀x H',(B5 K a).yld i H x H'->g x σ H' λσ2 H2=>tb { D with nx:=N,ct:=N,bk:=D.nx } σ2 H2):=by
 refine⟨λi m σ H=>m=xs.length - i/\i<=xs.length/\Pv i σ H,⟨xs.length,by simp,cA _,h0⟩,?_⟩
 rintro i m σ H ⟨rfl,hi,p⟩
 have q:=hl i σ H hi p
 by_cases hlt:i < xs.length
 ·refine .inr ⟨⟨xs,xs[i],q,by simp[hlt]⟩,Pv (i+1),λσ' H' p'=>⟨xs.length - (i+1),by omega,rfl,hlt,p'⟩,λx H' y=> ?_⟩
  obtain⟨e,y⟩:=y
  subst e
  exact hs i x σ _ (y xs q) p
 ·have e:i=xs.length:=by omega
  subst e
  exact .inl ⟨⟨xs,q,aU _⟩,hd σ H p⟩
theorem Tj {lo:Int}{n:Nat}{g:TG}{tb:TS}{D:DA}{σ:St}{H:Hp}(Pv:Nat->St->Hp->Prop)(h0:Pv 0 σ H)
  (hs:∀i σ H,i < n->Pv i σ H->g (.int (lo+i)) σ H λσ2 H2=>tb { D with nx:=Pv (i+1),ct:=Pv (i+1),bk:=D.nx } σ2 H2) (hd:∀σ H,Pv n σ H->D.nx σ H):
  ∃W:Nat->Nat->St->Hp->Prop,(∃m,W 0 m σ H)/\∀i m σ H,W i m σ H->
   ((Us lo n).stop i H/\D.nx σ H)\/((Us lo n).go i H/\∃N:St->Hp->Prop,(∀σ' H',N σ' H'->∃m',m' < m/\W (i+1) m' σ' H')/\∀x H',(Us lo n).yld i H x H'->g x σ H' λσ2 H2=>tb { D with nx:=N,ct:=N,bk:=D.nx } σ2 H2):=by
 refine⟨λi m σ H=>m=n - i/\i<=n/\Pv i σ H,⟨n,by simp,cA _,h0⟩,?_⟩
 rintro i m σ H ⟨rfl,hi,p⟩
 by_cases hlt:i < n
 ·refine .inr ⟨hlt,Pv (i+1),λσ' H' p'=>⟨n - (i+1),by omega,rfl,hlt,p'⟩,λx H' y=> ?_⟩
  obtain⟨e,y⟩:=y
  subst e y
  exact hs i σ _ hlt p
 ·have e:i=n:=by omega
  subst e
  exact .inl ⟨aU _,hd σ H p⟩
end L2
namespace L2
open PySem PySem.Spec PyProof.Rows
abbrev R2:=V->V->Hp->VK->Prop
def PD (X:Cx)(f:aC->aC->Sem aC)(r:R2):Prop:=
 ∀(pins:List (Addr×Obj)) (s:aI) (σ:St) (H:Hp) (x y:V) (v u:aC) (Q:VK),Inv X pins σ H s->RelV x v->RelV y u->r x y H Q->
  wpAny (model X.prog X.w) X.A (f v u) (EP X pins σ Q) X.xe s
def dc (X:Cx)(f:aC->Sem aC)(r:V->Hp->VK->Prop):Prop:=
 ∀(pins:List (Addr×Obj)) (s:aI) (σ:St) (H:Hp) (x:V) (v:aC) (Q:VK),Inv X pins σ H s->RelV x v->r x H Q->
  wpAny (model X.prog X.w) X.A (f v) (EP X pins σ Q) X.xe s
def ED (X:Cx)(f:aC)(r:List V->Hp->VK->Prop):Prop:=
 ∀(pins:List (Addr×Obj)) (s:aI) (σ:St) (H:Hp) (xs:List V) (us:List aC) (Q:VK),Inv X pins σ H s->eG xs us->r xs H Q->
  wpAny (model X.prog X.w) X.A (call f us) (EP X pins σ Q) X.xe s
def x4 (r:R2)(ta tb:TE):TE:=λσ H Q=>ta σ H λx H1=>tb σ H1 λy H2=>r x y H2 Q
def tUn (r:V->Hp->VK->Prop)(ta:TE):TE:=λσ H Q=>ta σ H λx H1=>r x H1 Q
def rI (C:Int->Int->Prop)(g:Int->Int->V):R2:=λx y H Q=>A3 x λi=>A3 y λj=>C i j/\Q (g i j) H
def Wk (g:Int->Int->V):R2:=λx y H Q=>A3 x λi=>A3 y λj=>Q (g i j) H
def rU (g:Int->V):V->Hp->VK->Prop:=λx H Q=>A3 x λi=>Q (g i) H
section
variable {X:Cx}{a b c:Expr}{ta tb tc:TE}{pos:Pos}
theorem L7 (ha:PE X a ta)(hb:PE X b tb){pins:List (Addr×Obj)}{s:aI}{σ:St}{H:Hp}{R:V->V->Hp->Prop}(I:Inv X pins σ H s)
  (h:ta σ H λx H1=>tb σ H1 λy H2=>R x y H2) {Q:aC->aI->Prop} {f:aC->aC->Sem aC}
  (hf:∀v u s2 x y H2,Inv X pins σ H2 s2->RelV x v->RelV y u->R x y H2->wpAny (model X.prog X.w) X.A (f v u) Q X.xe s2):
  wpAny (model X.prog X.w) X.A (eval a X.env) (λv s₁=>wpAny (model X.prog X.w) X.A (eval b X.env) (λu s₂=>wpAny (model X.prog X.w) X.A (f v u) Q X.xe s₂) X.xe s₁) X.xe s:=by
 refine kC (ha pins s σ H _ I h) λv s1 ⟨x,H1,I1,r1,q1⟩=> ?_
 refine kC (hb pins s1 σ H1 _ I1 q1) λu s2 ⟨y,H2,I2,r2,q2⟩=> ?_
 exact hf v u s2 x y H2 I2 r1 r2 q2
theorem eL {op:Operator}{r:R2}(ho:PD X (binaryOp op) r)(ha:PE X a ta)(hb:PE X b tb):PE X (.BinOp a op b pos) (x4 r ta tb):=by
 intro pins s σ H Q I h
 exact wpAny_BinOp (L7 ha hb I h λv u s2 x y H2 I2 rx ry q=>ho pins s2 σ H2 x y v u Q I2 rx ry q)
theorem yW {op:UnaryOp}{r:V->Hp->VK->Prop}(ho:dc X (unaryOp op) r)(ha:PE X a ta):PE X (.UnaryOp op a pos) (tUn r ta):=by
 intro pins s σ H Q I h
 exact UnaryOp_ (kC (ha pins s σ H _ I h) λv s1 ⟨x,H1,I1,r1,q1⟩=>ho pins s1 σ H1 x v Q I1 r1 q1)
theorem opI {f:aC->aC->Sem aC}{C:Int->Int->Prop}{g:Int->Int->Int}
  (rule:∀(i j:Int) (t u:Tok) (s:aI) (Q:aC->aI->Prop) (E:aC->aI->Prop),C i j->Q (.int (g i j) s.toks) { s with toks:=s.toks+1 }->wpAny (model X.prog X.w) X.A (f (.int i t) (.int j u)) Q E s):
  PD X f (rI C λi j=>.int (g i j)):=by
 intro pins s σ H x y v u Q I rx ry h
 obtain⟨i,rfl,h1⟩:=YG h
 obtain⟨j,rfl,hc,q⟩:=YG h1
 obtain⟨t,rfl⟩:=rx
 obtain⟨t',rfl⟩:=ry
 exact rule i j t t' s _ _ hc ⟨.int (g i j),H,I.tok _,⟨_,rfl⟩,q⟩
theorem U1 {f:aC->aC->Sem aC}{g:Int->Int->Int}
  (rule:∀(i j:Int) (t u:Tok) (s:aI) (Q:aC->aI->Prop) (E:aC->aI->Prop),Q (.int (g i j) s.toks) { s with toks:=s.toks+1 }->wpAny (model X.prog X.w) X.A (f (.int i t) (.int j u)) Q E s):
  PD X f (Wk λi j=>.int (g i j)):=by
 intro pins s σ H x y v u Q I rx ry h
 obtain⟨i,rfl,h1⟩:=YG h
 obtain⟨j,rfl,q⟩:=YG h1
 obtain⟨t,rfl⟩:=rx
 obtain⟨t',rfl⟩:=ry
 exact rule i j t t' s _ _ ⟨.int (g i j),H,I.tok _,⟨_,rfl⟩,q⟩
theorem i9 {f:aC->aC->Sem aC}{g:Int->Int->Bool}
  (rule:∀(i j:Int) (t u:Tok) (s:aI) (Q:aC->aI->Prop) (E:aC->aI->Prop),Q (.bool (g i j)) s->wpAny (model X.prog X.w) X.A (f (.int i t) (.int j u)) Q E s):
  PD X f (Wk λi j=>.bl (g i j)):=by
 intro pins s σ H x y v u Q I rx ry h
 obtain⟨i,rfl,h1⟩:=YG h
 obtain⟨j,rfl,q⟩:=YG h1
 obtain⟨t,rfl⟩:=rx
 obtain⟨t',rfl⟩:=ry
 exact rule i j t t' s _ _ ⟨.bl (g i j),H,I,rfl,q⟩
def O9 (i j:Int):Prop:=(-(2 ^ 64) < i/\i < 2 ^ 64)\/(-(2 ^ 64) < j/\j < 2 ^ 64)
theorem O9.ok {i j:Int}(h:O9 i j):IntMulOk i j:=by
 rcases h with⟨h1,h2⟩ | ⟨h1,h2⟩
 ·exact .of_left (intBits_le_64 h1 h2)
 ·exact .of_right (intBits_le_64 h1 h2)
theorem jR:PD X (binaryOp .Add) (Wk λi j=>.int (i+j)):=U1 λ_ _ _ _ _ _ _ q=>add_int q
theorem sN:PD X (binaryOp .Sub) (Wk λi j=>.int (i - j)):=U1 λ_ _ _ _ _ _ _ q=>sub_int q
theorem vH:PD X (binaryOp .Mult) (rI O9 λi j=>.int (i * j)):=opI λ_ _ _ _ _ _ _ hc q=>mul_int q hc.ok
theorem unI {f:aC->Sem aC}{g:Int->Int}
  (rule:∀(i:Int) (t:Tok) (s:aI) (Q:aC->aI->Prop) (E:aC->aI->Prop),Q (.int (g i) s.toks) { s with toks:=s.toks+1 }->wpAny (model X.prog X.w) X.A (f (.int i t)) Q E s):
  dc X f (rU λi=>.int (g i)):=by
 intro pins s σ H x v Q I rx h
 obtain⟨i,rfl,q⟩:=YG h
 obtain⟨t,rfl⟩:=rx
 exact rule i t s _ _ ⟨.int (g i),H,I.tok _,⟨_,rfl⟩,q⟩
theorem sC:dc X (unaryOp .USub) (rU λi=>.int (-i)):=unI λ_ _ _ _ _ q=>neg_int q
end
def d7:V->V->Bool
 | .non,.non=>true | .non,.int _=>true | .int _,.non=>true | .non,.bl _=>true | .bl _,.non=>true | .non,.str _=>true | .str _,.non=>true
 | .int _,.int _=>true | .bl _,.bl _=>true | .str _,.str _=>true | .byt _,.byt _=>true
 | .int _,.str _=>true | .str _,.int _=>true | .bl _,.str _=>true | .str _,.bl _=>true
 | _,_=>false
def ak:R2:=λx y H Q=>d7 x y=true/\Q (.bl (decide (x=y))) H
def ag:R2:=λx y H Q=>d7 x y=true/\Q (.bl (!decide (x=y))) H
theorem Qs {i j:Int}:decide (V.int i=V.int j)=(i==j):=by
 rw[cZ]
 simp
theorem Yk {i j:Bool}:decide (V.bl i=V.bl j)=(i==j):=by
 rw[cZ]
 simp
theorem Qr {i j:Str}:decide (V.str i=V.str j)=(i==j):=by
 rw[cZ]
 simp
theorem Qt {i j:Array UInt8}:decide (V.byt i=V.byt j)=(i.toList==j.toList):=by
 rw[cZ]
 cases i
 cases j
 simp
section
variable {X:Cx}{a b c:Expr}{ta tb tc:TE}{pos:Pos}
theorem gY {pins:List (Addr×Obj)}{σ:St}{H:Hp}{s:aI}{Q:VK}{k k':Bool}(I:Inv X pins σ H s)(q:Q (.bl k) H)(e:k=k'):EP X pins σ Q (.bool k') s:=by
 subst e
 exact⟨.bl k,H,I,rfl,q⟩
theorem sO:PD X (compareOp .Eq) ak:=by
 intro pins s σ H x y v u Q I rx ry h
 obtain⟨hs,q⟩:=h
 cases x with
 | non=>
  cases rx
  cases y with
  | non=>cases ry;exact PySem.EqNone.eq_none_none (gY I q (by simp))
  | bl j=>cases ry;exact PySem.EqNone.eq_none_bool (gY I q (by simp))
  | int j=>obtain⟨t',rfl⟩:=ry;exact PySem.EqNone.eq_none_int (gY I q (by simp))
  | str j=>obtain⟨t',rfl⟩:=ry;exact PySem.EqNone.eq_none_str (gY I q (by simp))
  | _=>exact absurd (show false=true from hs) bP
 | bl i=>
  cases rx
  cases y with
  | non=>cases ry;exact PySem.EqNone.eq_bool_none (gY I q (by simp))
  | bl j=>cases ry;exact eq_bool (gY I q Yk)
  | str j=>obtain⟨t',rfl⟩:=ry;exact PySem.EqMixed.eq_bool_str (gY I q (by simp))
  | _=>exact absurd (show false=true from hs) bP
 | int i=>
  obtain⟨t,rfl⟩:=rx
  cases y with
  | non=>cases ry;exact PySem.EqNone.eq_int_none (gY I q (by simp))
  | int j=>obtain⟨t',rfl⟩:=ry;exact eq_int (gY I q Qs)
  | str j=>obtain⟨t',rfl⟩:=ry;exact PySem.EqMixed.eq_int_str (gY I q (by simp))
  | _=>exact absurd (show false=true from hs) bP
 | str i=>
  obtain⟨t,rfl⟩:=rx
  cases y with
  | non=>cases ry;exact PySem.EqNone.eq_str_none (gY I q (by simp))
  | bl j=>cases ry;exact PySem.EqMixed.eq_str_bool (gY I q (by simp))
  | int j=>obtain⟨t',rfl⟩:=ry;exact PySem.EqMixed.eq_str_int (gY I q (by simp))
  | str j=>obtain⟨t',rfl⟩:=ry;exact eq_str (gY I q Qr)
  | _=>exact absurd (show false=true from hs) bP
 | byt i=>
  obtain⟨t,rfl⟩:=rx
  cases y with
  | byt j=>obtain⟨t',rfl⟩:=ry;exact PySem.W.eq_bytes (gY I q Qt)
  | _=>exact absurd (show false=true from hs) bP
 | _=>cases y <;> exact absurd (show false=true from hs) bP
theorem Iq:PD X (compareOp .NotEq) ag:=by
 intro pins s σ H x y v u Q I rx ry h
 obtain⟨hs,q⟩:=h
 cases x with
 | non=>
  cases rx
  cases y with
  | non=>cases ry;exact PySem.EqNone.ne_none_none (gY I q (by simp))
  | bl j=>cases ry;exact PySem.EqNone.ne_none_bool (gY I q (by simp))
  | int j=>obtain⟨t',rfl⟩:=ry;exact PySem.EqNone.ne_none_int (gY I q (by simp))
  | str j=>obtain⟨t',rfl⟩:=ry;exact PySem.EqNone.ne_none_str (gY I q (by simp))
  | _=>exact absurd (show false=true from hs) bP
 | bl i=>
  cases rx
  cases y with
  | non=>cases ry;exact PySem.EqNone.ne_bool_none (gY I q (by simp))
  | bl j=>cases ry;exact ne_bool (gY I q (congrArg not Yk))
  | str j=>obtain⟨t',rfl⟩:=ry;exact PySem.EqMixed.ne_bool_str (gY I q (by simp))
  | _=>exact absurd (show false=true from hs) bP
 | int i=>
  obtain⟨t,rfl⟩:=rx
  cases y with
  | non=>cases ry;exact PySem.EqNone.ne_int_none (gY I q (by simp))
  | int j=>obtain⟨t',rfl⟩:=ry;exact ne_int (gY I q (congrArg not Qs))
  | str j=>obtain⟨t',rfl⟩:=ry;exact PySem.EqMixed.ne_int_str (gY I q (by simp))
  | _=>exact absurd (show false=true from hs) bP
 | str i=>
  obtain⟨t,rfl⟩:=rx
  cases y with
  | non=>cases ry;exact PySem.EqNone.ne_str_none (gY I q (by simp))
  | bl j=>cases ry;exact PySem.EqMixed.ne_str_bool (gY I q (by simp))
  | int j=>obtain⟨t',rfl⟩:=ry;exact PySem.EqMixed.ne_str_int (gY I q (by simp))
  | str j=>obtain⟨t',rfl⟩:=ry;exact ne_str (gY I q (congrArg not Qr))
  | _=>exact absurd (show false=true from hs) bP
 | byt i=>
  obtain⟨t,rfl⟩:=rx
  cases y with
  | byt j=>obtain⟨t',rfl⟩:=ry;exact PySem.W.ne_bytes (gY I q (congrArg not Qt))
  | _=>exact absurd (show false=true from hs) bP
 | _=>cases y <;> exact absurd (show false=true from hs) bP
theorem WK:PD X (compareOp .Lt) (Wk λi j=>.bl (decide (i < j))):=i9 λ_ _ _ _ _ _ _ q=>W3 q
theorem GD:PD X (compareOp .LtE) (Wk λi j=>.bl (decide (i<=j))):=i9 λ_ _ _ _ _ _ _ q=>le_int q
theorem Wz:PD X (compareOp .Gt) (Wk λi j=>.bl (decide (j < i))):=i9 λ_ _ _ _ _ _ _ q=>gt_int q
theorem Pp:PD X (compareOp .GtE) (Wk λi j=>.bl (decide (j<=i))):=i9 λ_ _ _ _ _ _ _ q=>ge_int q
theorem eZ (b:Expr){op:Vd}(h:op≠ .In:=by decide)(h2:op≠ .NotIn:=by decide):behindInMarks op b=false:=by
 have e1:(op==CmpOp.In)=false:=by cases op <;> first | rfl | exact absurd rfl h
 have e2:(op==eh)=false:=by cases op <;> first | rfl | exact absurd rfl h2
 cases b <;> simp[behindInMarks,e1,e2]
theorem uE {op:Vd}{r:R2}(ho:PD X (compareOp op) r)(ha:PE X a ta)(hb:PE X b tb)(hm:behindInMarks op b=false):PE X (.Compare a [op] [b] pos) (x4 r ta tb):=by
 intro pins s σ H Q I h
 exact wpAny_Compare1 (L7 ha hb I h λv u s2 x y H2 I2 rx ry q=>ho pins s2 σ H2 x y v u Q I2 rx ry q) hm
def Ow (t:TE):TT:=λσ H Q=>t σ H λx H'=>Nt x λk=>Q k H'
theorem eB {op:Vd}{r:R2}(ho:PD X (compareOp op) r)(ha:PE X a ta)(hb:PE X b tb)(hm:behindInMarks op b=false):PT X (.Compare a [op] [b] pos) (Ow (x4 r ta tb)):=by
 intro pins s σ H Q I h
 refine M9 (kC (ha pins s σ H _ I h) λv s1 ⟨x,H1,I1,r1,q1⟩=>kC (hb pins s1 σ H1 _ I1 q1) λu s2 ⟨y,H2,I2,r2,q2⟩=>
  kC (ho pins s2 σ H2 x y v u _ I2 r1 r2 q2) λc s3 ⟨z,H3,I3,r3,q0⟩=> ?_) hm
 obtain⟨k,e,q3⟩:=OO q0
 subst e
 cases r3
 exact gH ⟨H3,I3,q3⟩
def Lv (r r':R2)(ta tb tc:TE):TE:=λσ H Q=>ta σ H λx H1=>tb σ H1 λy H2=>r x y H2 λz H3=>Nt z λk=>
 (if k=true then tc σ H3 λw' H4=>r' y w' H4 Q else Q (.bl false) H3)
theorem GC {op op':Vd}{r r':R2}(ho:PD X (compareOp op) r)(ho':PD X (compareOp op') r')(ha:PE X a ta)(hb:PE X b tb)(hc:PE X c tc)
  (hm:lastMarks [op,op'] [b,c]=false:=by with_unfolding_all rfl):PE X (.Compare a [op,op'] [b,c] pos) (Lv r r' ta tb tc):=by
 intro pins s σ H Q I h
 refine Compare_chain (kC (ha pins s σ H _ I h) λv s1 ⟨x,H1,I1,r1,q1⟩=>chain_link (kC (hb pins s1 σ H1 _ I1 q1) λu s2 ⟨y,H2,I2,r2,q2⟩=>
  kC (ho pins s2 σ H2 x y v u _ I2 r1 r2 q2) λd s3 ⟨z,H3,I3,r3,q0⟩=> ?_)) hm
 obtain⟨k,e,q3⟩:=OO q0
 subst e
 cases r3
 refine gH ?_
 cases k with
 | false=>exact ite_ff ⟨.bl false,H3,I3,rfl,q3⟩
 | true=>exact ite_tt (chain_last (kC (hc pins s3 σ H3 _ I3 q3) λw' s4 ⟨z',H4,I4,r4,q4⟩=>ho' pins s4 σ H4 y z' u w' Q I4 r2 r4 q4))
theorem Ic {op op':Vd}{r r':R2}(ho:PD X (compareOp op) r)(ho':PD X (compareOp op') r')(ha:PE X a ta)(hb:PE X b tb)(hc:PE X c tc)
  (hm:lastMarks [op,op'] [b,c]=false:=by with_unfolding_all rfl):PT X (.Compare a [op,op'] [b,c] pos) (Ow (Lv r r' ta tb tc)):=by
 intro pins s σ H Q I h
 refine isTrue_chain (kC (ha pins s σ H _ I h) λv s1 ⟨x,H1,I1,r1,q1⟩=>test_link (kC (hb pins s1 σ H1 _ I1 q1) λu s2 ⟨y,H2,I2,r2,q2⟩=>
  kC (ho pins s2 σ H2 x y v u _ I2 r1 r2 q2) λd s3 ⟨z,H3,I3,r3,q0⟩=> ?_)) hm
 obtain⟨k,e,q3⟩:=OO q0
 subst e
 cases r3
 refine gH ?_
 cases k with
 | false=>
  exact ite_ff ⟨H3,I3,q3⟩
 | true=>
  refine ite_tt (test_last (kC (hc pins s3 σ H3 _ I3 q3) λw' s4 ⟨z',H4,I4,r4,q4⟩=>kC (ho' pins s4 σ H4 y z' u w' _ I4 r2 r4 q4) λd' s5 ⟨z2,H5,I5,r5,q00⟩=> ?_))
  obtain⟨k2,e2,q5⟩:=OO q00
  subst e2
  cases r5
  exact gH ⟨H5,I5,q5⟩
theorem Eu:(sizeLine:Nat) < 2 ^ 63:=by rw[aX];decide
theorem Os {x:V}{us:List aC}(r:eG [x] us):∃u,us=[u]/\RelV x u:=by
 cases r with
 | cons r1 r2=>cases r2;exact⟨_,rfl,r1⟩
theorem Jz:ED X (.builtin "abs") (λxs H Q=>∃i,xs=[.int i]/\Q (.int (if i < 0 then -i else i)) H):=by
 intro pins s σ H xs us Q I r h
 obtain⟨i,rfl,q⟩:=h
 obtain⟨u,rfl,t,rfl⟩:=Os r
 exact call_abs_int λu tk=>⟨.int (if i < 0 then -i else i),H,I.tok _,⟨_,rfl⟩,q⟩
end
end L2
namespace L2
open PySem PySem.Spec PyProof.Rows
structure Ob (h:Heap)(x dx C:Addr)(mA:Str->Option aC):Prop where
 obj:h.get? x=some (PySem.W.instObj C dx)
 ns:h.Ns1 dx mA
 ne:dx≠x
theorem Su {h:Heap}{dx:Addr}{mA:Str->Option aC}(n:h.Ns1 dx mA):∃od,h.get? dx=some od/\∀name,PySem.W.lookIn name od=some (mA name):=by
 obtain⟨o,es,ep,ho,hd,hk,_,hm⟩:=n
 refine⟨o,ho,λname=> ?_⟩
 have e:=hm name
 unfold nsFind findBy at e
 rw[<-Array.find?_toList] at e
 unfold PySem.W.lookIn
 rw[hd]
 dsimp only
 split
 ·rename_i y q
  rw[q] at e
  exact congrArg some e
 ·rename_i q
  rw[q] at e
  have a:es.toList.any (·.refKey)=false:=by
   rw[List.any_eq_false]
   intro y hy
   obtain⟨z,t,hkey⟩:=hk y (Array.mem_toList_iff.mp hy)
   simp[DictEntry.refKey,hkey]
  have a':¬es.toList.any (·.refKey)=true:=by rw[a];exact bP
  rw[if_neg a']
  exact congrArg some e
theorem Ob.look {h:Heap}{x dx C:Addr}{mA:Str->Option aC}(I:Ob h x dx C mA):∃od,PySem.W.InstAt h x (PySem.W.instObj C dx) C (some od)/\∀name,PySem.W.lookIn name od=some (mA name):=
 let ⟨od,ho,hl⟩:=Su I.ns
 ⟨od,⟨I.obj,rfl,rfl,ho⟩,hl⟩
section
variable {prog:bS}{w:cY}{A:dZ}{E:aC->aI->Prop}{s:aI}{K:PySem.W.Frag}{x dx C f:Addr}{mA:Str->Option aC}{name:Str}{v:aC}
theorem l9 {expr:Bool}{Q:aC->aI->Prop}(X:K.In s.heap)(I:Ob s.heap x dx C mA)(hg:PySem.W.plainGet K C name=true)(hh:PySem.W.hasDictIn K C=true)
  (ha:PySem.W.findIn K (.ref C) name=some none) (hv:mA name=some v) (hv':PySem.W.handedIn v=true) (h:Q v { s with toks:=s.toks+1 }):
  wpAny (model prog w) A (getAttr (.ref x) name expr) Q E s:=by
 obtain⟨od,J,hl⟩:=I.look
 exact PySem.W.get_value X J (PySem.W.plainGet_of hg).1 (PySem.W.findObj_own hh ha rfl (by rw[hl,hv])) hv' h
theorem Yd {pl:Sem Bool}{Q:aC×List aC->aI->Prop}(X:K.In s.heap)(I:Ob s.heap x dx C mA)(hg:PySem.W.plainGet K C name=true)
  (hf:PySem.W.findIn K (.ref C) name=some (some (.ref f))) (ht:PySem.W.isFn K (.ref f)=true) (hv:mA name=none) (h:Q (.ref f,[.ref x]) s):
  wpAny (model prog w) A (getMethod (.ref x) name pl) Q E s:=by
 obtain⟨od,J,hl⟩:=I.look
 exact PySem.W.method_fn X J (PySem.W.plainGet_of hg).1 (PySem.W.plainGet_of hg).2 hf (beq_iff_eq.mp ht) (by show(PySem.W.lookIn name od).map (·.isSome)=some false;rw[hl,hv];rfl) h
theorem d4 {ns:List Str}{Q:Unit->aI->Prop}(X:K.In s.heap)(I:Ob s.heap x dx C mA)
  (hs:PySem.W.findIn K (.ref C) "__setattr__"=some (some (.builtin "object.__setattr__"))) (hp:PySem.W.plainOver K C=true) (ht:PySem.W.takerIn K C name=some none) (hh:PySem.W.hasDictIn K C=true)
  (hw:PySem.Within mA ns) (hsz:ns.length<=sizeLine)
  (h:∀h',Ob h' x dx C (λy=>if y=name then some v else mA y)->oK dx s.heap h'->Q () { s with heap:=h',toks:=s.toks+2 }):
  wpAny (model prog w) A (setAttr (.ref x) name v) Q E s:=by
 obtain⟨od,J,hl⟩:=I.look
 refine PySem.W.set_plain X J hs (PySem.W.osa_open (s:={ s with toks:=s.toks+1 }) (r:=none) X J hp ht λb=> ?_)
 obtain⟨cd,hc,hd'⟩:=PySem.W.any_some hh
 have hx:s.heap.get? x=some ⟨.ref C,some dx,.plain,#[]⟩:=I.obj
 refine aD (bC (aD (aD (wpAny_loadPart hx (aD (PySem.W.Looks.here (s:={ s with toks:=s.toks+1 }) (PySem.W.looks_clsIn X hc) ?_))))))
 rw[hd']
 refine bC (a:=some dx) (aD (bC (aD ?_)))
 refine wpAny_nsSet1 (s:={ s with toks:=s.toks+1 }) I.ns λh' hn2 hs2=> ?_
 obtain⟨oD,esD,epD,hoD,hdD,hcD⟩:=hn2.count (PySem.Within.cons name v hw)
 refine aD (wpAny_lookBehind hoD (by rw[hdD];exact pastItsLine_dict (cV hcD (by rw[cM];omega))) ?_)
 exact bC (h _ ⟨(hs2.2 _ (fE I.ne)).trans I.obj,hn2,I.ne⟩ hs2)
theorem Xd {R:Vc->aI->Prop}{vs:List aC}{kw:List (Str×aC)}(X:K.In s.heap)(hm:PySem.W.makesIn K C=true)
  (hi:PySem.W.findIn K (.ref C) "__init__"=some (some (.ref f))) (hf:PySem.W.typeIn K (.ref f)=some (.type "function"))
  (h:codeAny (model prog w) (A.under (.builtin "type.__call__" ⟨.ref C::vs,kw⟩)) (.call (.ref f) ⟨.ref (s.heap.objs.size+1)::vs,kw⟩) (PySem.W.InitBack (s.heap.objs.size+1) R)
   { s with heap:=(s.heap.push PySem.W.emptyDict).push (PySem.W.instObj C s.heap.objs.size) }):
  codeAny (model prog w) A (.call (.ref C) ⟨vs,kw⟩) R s:=by
 obtain⟨hh,g,d,t,os⟩:=s
 exact PySem.W.make_core (PySem.W.makes_of X hm) (PySem.W.looks_findIn X hi) (λself=>PySem.W.bind_fn X self hf) (.inl rfl) h
end
def fL (f:Str)(v:V):List (Str×V)->List (Str×V)
 | []=>[(f,v)]
 | (g,x)::r=>if g=f then(g,v)::r else(g,x)::fL f v r
theorem SM (f g:Str)(v:V):∀fs:List (Str×V),(fL f v fs).lookup g=if g=f then some v else fs.lookup g
 | []=>by
  show tO g [(f,v)]=_
  by_cases h:g=f
  ·have hb:(g==f)=true:=beq_iff_eq.mpr h
   simp only[tO,hb,if_pos h]
  ·have hb:(g==f)=false:=beq_eq_false_iff_ne.mpr h
   simp only[tO,hb,if_neg h]
 | (k,x)::r=>by
  have ih:=SM f g v r
  rw[show fL f v ((k,x)::r)=(if k=f then(k,v)::r else(k,x)::fL f v r) from rfl]
  by_cases hk:k=f
  ·rw[if_pos hk]
   by_cases h:g=k
   ·have hb:(g==k)=true:=beq_iff_eq.mpr h
    simp only[tO,hb,if_pos (h.trans hk)]
   ·have hb:(g==k)=false:=beq_eq_false_iff_ne.mpr h
    simp only[tO,hb,if_neg (λe:g=f=>h (e.trans hk.symm))]
  ·rw[if_neg hk]
   by_cases h:g=k
   ·have hb:(g==k)=true:=beq_iff_eq.mpr h
    simp only[tO,hb,if_neg (λe:g=f=>hk (h.symm.trans e))]
   ·have hb:(g==k)=false:=beq_eq_false_iff_ne.mpr h
    simp only[tO,hb]
    exact ih
theorem QN (f:Str)(v:V):∀fs:List (Str×V),f∈(fL f v fs).map (·.1)/\∀g,g∈fs.map (·.1)->g∈(fL f v fs).map (·.1)
 | []=>⟨by simp[fL],λg h=>by simp at h⟩
 | (k,x)::r=>by
  obtain⟨i1,i2⟩:=QN f v r
  rw[show fL f v ((k,x)::r)=(if k=f then(k,v)::r else(k,x)::fL f v r) from rfl]
  by_cases hk:k=f
  ·rw[if_pos hk]
   subst hk
   exact⟨by simp,λg h=>by simpa using h⟩
  ·rw[if_neg hk]
   refine⟨?_,λg h=> ?_⟩
   ·rw[aJ]
    exact aN _ i1
   ·rw[aJ] at h ⊢
    rcases bN.mp h with e | e
    ·exact bN.mpr (.inl e)
    ·exact aN _ (i2 g e)
theorem SQ (f:Str)(v:V):∀fs:List (Str×V),(fL f v fs).length<=fs.length+1
 | []=>by simp[fL]
 | (k,x)::r=>by
  have ih:=SQ f v r
  rw[show fL f v ((k,x)::r)=(if k=f then(k,v)::r else(k,x)::fL f v r) from rfl]
  by_cases hk:k=f
  ·rw[if_pos hk,cM,cM];omega
  ·rw[if_neg hk,cM,cM];omega
theorem IU.some_of {v:V}{o:Option aC}(r:IU (some v) o):∃u,o=some u/\RelV v u:=by
 cases o with
 | none=>exact(show False from r).elim
 | some u=>exact⟨u,rfl,r⟩
theorem IU.none_of {o:Option aC}(r:IU none o):o=none:=by
 cases o with
 | none=>rfl
 | some u=>exact(show False from r).elim
theorem Ti {v:V}{u:aC}(r:RelV v u):PySem.W.handedIn u=true:=by
 cases v with
 | non=>cases (show u=oI from r);rfl
 | bl b=>cases (show u=vY b from r);rfl
 | int i=>obtain⟨t,e⟩:=(show∃t,u=pB i t from r);cases e;rfl
 | str x=>obtain⟨t,e⟩:=(show∃t,u=OT x t from r);cases e;rfl
 | byt b=>obtain⟨t,e⟩:=(show∃t,u=dq b t from r);cases e;rfl
 | flt b=>obtain⟨t,e⟩:=(show∃t,u=dn b t from r);cases e;rfl
 | ref a=>cases (show u=dQ a from r);rfl
 | ty n=>cases (show u=oH n from r);rfl
section
variable {P:bS}{w:cY}{H H':Hp}{h h':Heap}{a C dx:Addr}{fs fs':List (Str×V)}
theorem Fb (hok:IG P w H h)(e:H a=some (.ins C dx fs)):∃mA,Ob h a dx C mA/\(∀f,IU (fs.lookup f) (mA f))/\PySem.Within mA (fs.map (·.1))/\fs.length<=1000/\H dx=some (.own a):=by
 obtain⟨d,z,ne,ob,mA,n,r,q⟩:=(show kH P w H h a (.ins C dx fs) from hok a _ e)
 exact⟨mA,⟨ob,n,ne⟩,r,q,z,d⟩
end
structure Rn (K:PySem.W.Frag)(C:Addr):Prop where
 pg:PySem.W.plainGet K C Str.empty=true
 hd:PySem.W.hasDictIn K C=true
 po:PySem.W.plainOver K C=true
 sa:PySem.W.findIn K (.ref C) "__setattr__"=some (some (.builtin "object.__setattr__"))
theorem Rn.get {K:PySem.W.Frag}{C:Addr}(c:Rn K C)(f:Str):PySem.W.plainGet K C f=true:=c.pg
def fP (K:PySem.W.Frag)(C:Addr)(f:Str):Prop:=PySem.W.findIn K (.ref C) f=some none
theorem fP.taker {K:PySem.W.Frag}{C:Addr}{f:Str}(n:fP K C f):PySem.W.takerIn K C f=some none:=by
 unfold PySem.W.takerIn
 rw[show PySem.W.findIn K (.ref C) f=some none from n]
 rfl
structure t8 (K:PySem.W.Frag)(C:Addr)(m:Str)(f:Addr):Prop where
 at_:PySem.W.findIn K (.ref C) m=some (some (.ref f))
 fn:PySem.W.isFn K (.ref f)=true
 kp:PySem.W.keepIn K (.ref f)=true
section
variable {X:Cx}{pins:List (Addr×Obj)}{σ:St}{H:Hp}{s:aI}{a C dx:Addr}{fs:List (Str×V)}{f:Str}{v:V}{A:dZ}{E:aC->aI->Prop}
theorem Nc {b:Bool}{Q:aC->aI->Prop}(I:Inv X pins σ H s)(e:H a=some (.ins C dx fs))(c:Rn X.K C)(n:fP X.K C f)(l:fs.lookup f=some v)
  (h:∀u s',Inv X pins σ H s'->RelV v u->Q u s'):wpAny (model X.prog X.w) A (getAttr (.ref a) f b) Q E s:=by
 obtain⟨mA,O,r,_,_,_⟩:=Fb I.hok e
 obtain⟨u,hu,ru⟩:=IU.some_of (v:=v) (o:=mA f) (by rw[<-l];exact r f)
 exact l9 I.kIn O (c.get f) c.hd n hu (Ti ru) (h u _ (I.tok _) ru)
theorem XJ {m:Str}{g:Addr}{pl:Sem Bool}{Q:aC×List aC->aI->Prop}(I:Inv X pins σ H s)(e:H a=some (.ins C dx fs))(c:Rn X.K C)(k:t8 X.K C m g)(l:fs.lookup m=none)
  (h:Q (.ref g,[.ref a]) s):wpAny (model X.prog X.w) A (getMethod (.ref a) m pl) Q E s:=by
 obtain⟨mA,O,r,_,_,_⟩:=Fb I.hok e
 have hn:mA m=none:=IU.none_of (by rw[<-l];exact r m)
 exact Yd I.kIn O (c.get m) k.at_ k.fn hn h
theorem Mb {y:V}{u:aC}{Q:Unit->aI->Prop}(I:Inv X pins σ H s)(e:H a=some (.ins C dx fs))(c:Rn X.K C)(n:fP X.K C f)(hl:fs.length < 1000)(ry:RelV y u)
  (h:∀s',Inv X pins σ (upd H a (.ins C dx (fL f y fs))) s'->Q () s'):wpAny (model X.prog X.w) A (setAttr (.ref a) f u) Q E s:=by
 obtain⟨mA,O,r,wi,_,ho⟩:=Fb I.hok e
 have hz:(fs.map (·.1)).length<=sizeLine:=by rw[aA,aX];omega
 refine d4 I.kIn O c.sa c.po n.taker c.hd wi hz λh' O' sb=>h _ ?_
 have hd:∃o,h'.get? dx=some o:=let ⟨o,_,_,e',_⟩:=O'.ns;⟨o,e'⟩
 refine I.write (x:=a) (e:=dx) (by rw[e];exact IS) (.inr ho) (λb q hb z=>(sb.2 b hb).trans z) hd ?_
 refine⟨by rw[aM O.ne];exact ho,?_,O.ne,O'.obj,_,O'.ns,λg=> ?_,λg hg=> ?_⟩
 ·have:=SQ f y fs;omega
 ·show IU ((fL f y fs).lookup g) (if g=f then some u else mA g)
  rw[SM]
  by_cases q:g=f
  ·rw[if_pos q,if_pos q];exact ry
  ·rw[if_neg q,if_neg q];exact r g
 ·by_cases q:g=f
  ·rw[q];exact(QN f y fs).1
  ·refine(QN f y fs).2 g (wi g λz=>hg ?_)
   show(if g=f then some u else mA g)=none
   rw[if_neg q];exact z
theorem Inv.made (I:Inv X pins σ H s):Inv X pins σ (upd (upd H s.heap.objs.size (.own (s.heap.objs.size+1))) (s.heap.objs.size+1) (.ins C s.heap.objs.size []))
  { s with heap:=(s.heap.push PySem.W.emptyDict).push (PySem.W.instObj C s.heap.objs.size) }:=by
 have e1:(s.heap.push PySem.W.emptyDict).get? s.heap.objs.size=some PySem.W.emptyDict:=bF s.heap rfl
 have e2:((s.heap.push PySem.W.emptyDict).push (PySem.W.instObj C s.heap.objs.size)).get? (s.heap.objs.size+1)=some (PySem.W.instObj C s.heap.objs.size):=by
  have:=bF (s.heap.push PySem.W.emptyDict) (o:=PySem.W.instObj C s.heap.objs.size) rfl
  rwa [dE] at this
 have e3:(s.heap.push PySem.W.emptyDict).Ns s.heap.objs.size (λ_=>none):=⟨PySem.W.emptyDict,#[],_,e1,rfl,(λe he=>absurd he (by simp)),λ_=>rfl⟩
 have I1:=I.laid (a:=s.heap.objs.size) (o:=.own (s.heap.objs.size+1)) (h':=s.heap.push PySem.W.emptyDict) (t':=s.toks) (λb u q=>aG _ q) (aU _) ⟨_,e1⟩
 refine I1.laid (a:=s.heap.objs.size+1) (o:=.ins C s.heap.objs.size []) (t':=s.toks) (λb u q=>aG _ q) (zX (dE _ _)) ?_
 have ne:s.heap.objs.size≠s.heap.objs.size+1:=cJ (Dd _)
 refine⟨by rw[aM ne,aK],cA _,ne,e2,λ_=>none,(Heap.Ns1.of_empty e3).at λo q=>aG _ q,λ_=>IS,λy hy=>absurd rfl hy⟩
theorem n9 {prog:bS}{w:cY}{env:Env}{e:Expr}{f:Str}{pos:Pos}{s:aI}{Q:aC->aI->Prop}(hb:attributeBase e f env (eval e env)=eval e env)
  (h:wpAny (model prog w) A (eval e env) (λo s₁=>wpAny (model prog w) A (getAttr o f true) Q E s₁) E s):wpAny (model prog w) A (eval (.Attribute e f pos) env) Q E s:=
 Attribute_any_ h (by rw[arm_eval_Attribute,hb])
end
def C4 (K:PySem.W.Frag)(ta:TE)(f:Str):TE:=λσ H Q=>ta σ H λx H1=>p0 x λa=>∃C dx fs v,H1 a=some (.ins C dx fs)/\Rn K C/\fP K C f/\fs.lookup f=some v/\Q v H1
def d8 (K:PySem.W.Frag)(ta tv:TE)(f:Str):TS:=λD σ H=>tv σ H λy H1=>ta σ H1 λx H2=>p0 x λa=>∃C dx fs,H2 a=some (.ins C dx fs)/\Rn K C/\fP K C f/\fs.length < 1000/\
 D.nx σ (upd H2 a (.ins C dx (fL f y fs)))
section
variable {X:Cx}{o e value:Expr}{f:Str}{pos pos' tpos:Pos}{ta tv:TE}
theorem bY (he:PE X e ta)(hb:attributeBase e f X.env (eval e X.env)=eval e X.env):PE X (.Attribute e f pos) (C4 X.K ta f):=by
 intro pins s σ H Q I h
 refine n9 hb (kC (he pins s σ H _ I h) λu s1 ⟨x,H1,I1,rx,q0⟩=> ?_)
 obtain⟨a,ex,C,dx,fs,v,ea,c,n,l,q⟩:=Ra q0
 subst ex
 obtain rfl:u=dQ a:=rx
 exact Nc I1 ea c n l λu' s2 I2 ru=>⟨v,H1,I2,ru,q⟩
theorem gO (ha:PE X o ta)(hv:PE X value tv)(hs:swapsWith value (some (.Attribute o f pos')) pos.line X.env=pure false):PS X (.Assign [.Attribute o f pos'] value pos) (d8 X.K ta tv f):=by
 intro pins s σ H D I h
 refine plainObj_wpAny_Assign_Attribute (kC (hv pins s σ H _ I h) λu s1 ⟨y,H1,I1,ry,q⟩=>kC (ha pins s1 σ H1 _ I1 q) λov s2 ⟨x,H2,I2,rx,q0⟩=> ?_) hs
 obtain⟨a,ex,C,dx,fs,ea,c,n,l,q2⟩:=Ra q0
 subst ex
 obtain rfl:ov=dQ a:=rx
 exact Mb I2 ea c n l ry λs3 I3=>⟨σ,_,I3,q2⟩
end
end L2
namespace L2
open PySem PySem.Spec PyProof.Rows
structure oJ (k:Nat)(A:dZ):Prop where
 hd:A.handled=none
 dp:A.depth+3 * k+5 < recursionLimit
 un:A.units+16 * k+200 < cLine
theorem oJ.mono {j k:Nat}{A:dZ}(r:oJ k A)(h:j<=k):oJ j A:=⟨r.hd,by have:=r.dp;omega,by have:=r.un;omega⟩
theorem oJ.deeper {k:Nat}{A:dZ}(r:oJ (k+1) A)(env:Env):oJ k (A.deeper env):=
 ⟨r.hd,by have:=r.dp;show A.depth+1+3 * k+5 < _;omega,by have:=r.un;show A.units+3+16 * k+200 < _;omega⟩
theorem Na {A:dZ}{C:Addr}{us:List aC}{kw:List (Str×aC)}:(A.under (.builtin "type.__call__" ⟨.ref C::us,kw⟩)).depth=A.depth+1:=by
 first | rfl | simp[Nz,Code.weight,Code.isCreation,Code.isGuard,Code.isCaller,Code.frames,Uk,guardIds]
theorem Mz {A:dZ}{C:Addr}{us:List aC}{kw:List (Str×aC)}:(A.under (.builtin "type.__call__" ⟨.ref C::us,kw⟩)).units=A.units+1:=by
 first | rfl | simp[Nz,Code.cUnits,Code.frames,Uk]
theorem oJ.make {k:Nat}{A:dZ}(r:oJ (k+1) A)(C:Addr)(us:List aC)(kw:List (Str×aC)):oJ k (A.under (.builtin "type.__call__" ⟨.ref C::us,kw⟩)):=
 ⟨r.hd,by have:=r.dp;rw[Na];omega,by have:=r.un;rw[Mz];omega⟩
theorem oJ.depth {k:Nat}{A:dZ}(r:oJ k A):A.depth < recursionLimit:=by have:=r.dp;omega
theorem oJ.units {k:Nat}{A:dZ}(r:oJ k A):A.units+64 < cLine:=by have:=r.un;omega
def ZI:TA:=λ_ H Q=>Q [] H
def Vu (ta:TE)(tr:TA):TA:=λσ H Q=>ta σ H λx H1=>tr σ H1 λxs H2=>Q (x::xs) H2
section
variable {X:Cx}{e:Expr}{es:List Expr}{te:TE}{t:TA}{pos:Pos}
theorem aL:PA X [] ZI:=λ_ _ _ _ H Q I h=>UQ ⟨[],H,I,.nil,h⟩
theorem aB (ha:PE X e te)(hr:PA X es t)(hs:starEach (e::es) X.env=(false,eval e X.env)::starEach es X.env:=by rfl):PA X (e::es) (Vu te t):=by
 intro pos pins s σ H Q I h
 rw[hs]
 show wpAny _ _ (spliced ((false,eval e X.env)::backTo pos (starEach es X.env))) _ _ s
 refine zW (kC (ha pins s σ H _ I h) λu s1 ⟨x,H1,I1,r1,q1⟩=> ?_)
 exact kC (hr pos pins s1 σ H1 _ I1 q1) λus s2 ⟨xs,H2,I2,r2,q2⟩=>⟨x::xs,H2,I2,.cons r1 r2,q2⟩
def Q0 (t:TA):TE:=λσ H Q=>t σ H λxs H1=>xs.length<=sizeLine/\∀p,H1 p=none->Q (.ref p) (upd H1 p (.tup xs))
def C3 (t:TA):TE:=λσ H Q=>t σ H λxs H1=>xs.length<=sizeLine/\∀p,H1 p=none->Q (.ref p) (upd H1 p (.lst xs))
theorem Ed {x1}(h:PA X es t):PE X (.Tuple es x1 pos) (Q0 t):=by
 intro pins s σ H Q I hq
 refine wpAny_Tuple_spliced (kC (h pos pins s σ H _ I hq) λus s1 ⟨xs,H1,I1,r,z,q⟩=>⟨by rw[<-r.length];exact z,?_⟩)
 have hf:H1 s1.heap.objs.size=none:=I1.hok.fresh (aU _)
 refine⟨.ref s1.heap.objs.size,upd H1 s1.heap.objs.size (.tup xs),I1.laid (t':=s1.toks) (λb u e=>aG _ e) (aU _) ?_,rfl,q _ hf⟩
 exact⟨z,us,r,⟨_,bF _ rfl,rfl,_,rfl⟩⟩
theorem gJ (h:PA X es t):PE X (.List es pos) (C3 t):=by
 intro pins s σ H Q I hq
 refine wpAny_List_spliced (kC (h pos pins s σ H _ I hq) λus s1 ⟨xs,H1,I1,r,z,q⟩=>⟨by rw[<-r.length];exact z,?_⟩)
 have hf:H1 s1.heap.objs.size=none:=I1.hok.fresh (aU _)
 refine⟨.ref s1.heap.objs.size,upd H1 s1.heap.objs.size (.lst xs),I1.laid (t':=s1.toks) (λb u e=>aG _ e) (aU _) ?_,rfl,q _ hf⟩
 exact⟨z,us,0,r,bF _ rfl⟩
end
abbrev Sp:=List V->Hp->VK->XK->Prop
abbrev Zc:=List Env->Hp->aI->XK->aC->aI->Prop
structure Ol (P:bS)(w:cY)(K:PySem.W.Frag)(mg:Str->Option aC)(base:Heap)(A:dZ)(outer:List Env)(s:aI)(H:Hp):Prop where
 frames:A.frames=some outer
 mod:Z4 K mg base
 bs:∀b o,base.get? b=some o->s.heap.get? b=some o/\H b=none
 bsz:base.objs.size<=s.heap.objs.size
 funs:s.heap.FunFrames base outer
 frf:∀b∈Ff outer,H b=none
 hok:IG P w H s.heap
 bare:Gk s.gens
def CE (outer:List Env)(P:bS)(w:cY)(H:Hp)(s:aI)(Q:VK)(u:aC)(s':aI):Prop:=
 ∃v H',s'.os=s.os/\Gk s'.gens/\Un (Ff outer) [] H H' s.heap s'.heap/\IG P w H' s'.heap/\RelV v u/\Q v H'
def CR (CX:Zc)(outer:List Env)(P:bS)(w:cY)(H:Hp)(s:aI)(Q:VK)(E:XK)(r:Vc)(s':aI):Prop:=
 match r with
 | .ok (.ret u)=>CE outer P w H s Q u s'
 | .ok _=>False
 | .error e=>CX outer H s E e s'
structure BL (P:bS)(w:cY)(K:PySem.W.Frag)(mg:Str->Option aC)(base:Heap)(CX:Zc)(k:Nat)(f:Addr)(fd:bG)(ps:List Str)(sp:Sp):Prop where
 len:∀vs H Q E,sp vs H Q E->vs.length=ps.length
 run:∀(A:dZ) (outer:List Env) (s:aI) (H:Hp) (args:Args) (us:List aC) (vs:List V) (Q:VK) (E:XK),oJ k A->Ol P w K mg base A outer s H->BindsTo s fd args (ps.zip us)->eG vs us->sp vs H Q E->
  codeAny (model P w) A (.call (.ref f) args) (CR CX outer P w H s Q E) s
theorem Ol.make {P:bS}{w:cY}{K:PySem.W.Frag}{mg:Str->Option aC}{base:Heap}{A:dZ}{outer:List Env}{s:aI}{H:Hp}(e:Ol P w K mg base A outer s H)(C:Addr)(us:List aC)(kw:List (Str×aC)):
  Ol P w K mg base (A.under (.builtin "type.__call__" ⟨.ref C::us,kw⟩)) outer s H:=⟨by first | exact e.frames | (simpa[Nz,Code.envs,Uk,pushEnvs] using e.frames),e.mod,e.bs,e.bsz,e.funs,e.frf,e.hok,e.bare⟩
section
variable {X:Cx}{pins:List (Addr×Obj)}{σ:St}{H:Hp}{s s':aI}
theorem Inv.env0 (I:Inv X pins σ H s):Ol X.prog X.w X.K X.mg X.base X.A X.stack s H:=
 ⟨I.ok.frames,I.ok.mod,I.bs,cV I.ok.bsz I.sz,I.stack,I.stkFree,I.hok,I.bare⟩
theorem Inv.after {Q:VK}{u:aC}(I:Inv X pins σ H s)(h:CE X.stack X.prog X.w H s Q u s'):EP X pins σ Q u s':=by
 obtain⟨v,H',os,bare,un,hok,r,q⟩:=h
 obtain⟨hh,g,d,t,os'⟩:=s'
 obtain rfl:os'=s.os:=os
 exact⟨v,H',I.call (h':=hh) (g':=g) (d':=d) (t':=t) (ch:=[]) un hok bare (λb z=>absurd z (by simp)),r,q⟩
end
def He (sp:Sp)(dvs:List V)(E:XK)(t:TA):TE:=λσ H Q=>t σ H λvs H1=>sp (vs++dvs) H1 Q E
def Hc (C:Addr)(m:Str)(sp:Sp)(dvs:List V)(E:XK)(ta:TE)(t:TA):TE:=λσ H Q=>ta σ H λx H1=>p0 x λa=>∃dx fs,H1 a=some (.ins C dx fs)/\fs.lookup m=none/\
 t σ H1 λvs H2=>sp (x::(vs++dvs)) H2 Q E
def Hd (C:Addr)(sp:Sp)(dvs:List V)(E:XK)(t:TA):TE:=λσ H Q=>t σ H λvs H1=>∀x dx,H1 x=none->H1 dx=none->dx≠x->
 sp (.ref x::(vs++dvs)) (upd (upd H1 dx (.own x)) x (.ins C dx [])) (λv H2=>v=.non/\Q (.ref x) H2) E
def xY (K:PySem.W.Frag)(fd:bG)(ps:List Str)(ds:List aC):Prop:=
 ∀(s:aI) (us:List aC),K.In s.heap->(us++ds).length=ps.length->BindsTo s fd ⟨us,[]⟩ (ps.zip (us++ds))
theorem xY.all {K:PySem.W.Frag}{fd:bG}{ps:List Str}(h:∀us:List aC,us.length=ps.length->bindArgs fd ⟨us,[]⟩=pure (ps.zip us)):xY K fd ps []:=λs us _ hl=>by
 rw[eX] at hl ⊢
 exact .of_eq (h us hl)
def CY (CX:Zc)(X:Cx)(E:XK):Prop:=∀(pins:List (Addr×Obj)) (σ:St) (H:Hp) (s:aI) (e:aC) (s':aI),Inv X pins σ H s->CX X.stack H s E e s'->X.xe e s'
section
variable {X:Cx}{CX:Zc}{k:Nat}{f C:Addr}{fd:bG}{ps:List Str}{sp:Sp}{dvs:List V}{ds:List aC}{E:XK}{x m:Str}{p pos apos:Pos}{e o:Expr}{es:List Expr}{ta:TE}{t:TA}
theorem Dy {pins:List (Addr×Obj)}{σ:St}{H:Hp}{s:aI}{Q:VK}{us:List aC}{vs:List V}(F:BL X.prog X.w X.K X.mg X.base CX k f fd ps sp)(hr:oJ k X.A)(hb:xY X.K fd ps ds)(hd:eG dvs ds)(hx:CY CX X E)
  (I:Inv X pins σ H s) (r:eG vs us) (h:sp (vs++dvs) H Q E):wpAny (model X.prog X.w) X.A (call (.ref f) us) (EP X pins σ Q) X.xe s:=by
 have r2:eG (vs++dvs) (us++ds):=r.append hd
 have hl:(us++ds).length=ps.length:=by rw[<-r2.length];exact F.len _ _ _ _ h
 refine Y5 (Gg (F.run X.A X.stack s H ⟨us,[]⟩ (us++ds) (vs++dvs) Q E hr I.env0 (hb s us I.kIn hl) r2 h) λr s' hq=> ?_)
 cases r with
 | error e=>exact hx pins σ H s e s' I hq
 | ok fl=>
  cases fl with
  | ret u=>exact I.after hq
  | next=>exact fS hq
  | brk=>exact fS hq
  | cont=>exact fS hq
theorem Pn (F:BL X.prog X.w X.K X.mg X.base CX k f fd ps sp)(hr:oJ k X.A)(hg:Gl X x)(hm:X.mg x=some (.ref f))(hk:PySem.W.keepIn X.K (.ref f)=true)(hb:xY X.K fd ps ds)(hd:eG dvs ds)(hx:CY CX X E)
  (ha:PA X (e::es) t) (hdb:(x==("__debug__":Str))=false:=by decide) (he:starEach (e::es) X.env=(false,eval e X.env)::starEach es X.env:=by rfl) (hpl:(backTo pos (starEach es X.env)).any (·.1)=false:=by rfl):
  PE X (.Call (.Name x p) (e::es) [] pos) (He sp dvs E t):=by
 intro pins s σ H Q I h
 refine jW (OA I hg hm ?_ hdb)
 refine PySem.W.callWith_K (h₀:=X.base) I.ok.mod.kin hk (kC (ha pos pins s σ H _ I h) λus s1 ⟨vs,H1,I1,r,q⟩=>⟨I1.kIn,?_⟩) he hpl
 exact Dy F hr hb hd hx I1 r q
theorem Wv (F:BL X.prog X.w X.K X.mg X.base CX k f fd ps sp)(hr:oJ k X.A)(hg:Gl X x)(hm:X.mg x=some (.ref f))(hk:PySem.W.keepIn X.K (.ref f)=true)(hb:xY X.K fd ps ds)(hd:eG dvs ds)(hx:CY CX X E)
  (hdb:(x==("__debug__":Str))=false:=by decide):PE X (.Call (.Name x p) [] [] pos) (He sp dvs E ZI):=by
 intro pins s σ H Q I h
 refine jW (OA I hg hm ?_ hdb)
 exact PySem.W.callWith_K0 I.kIn hk (Dy (us:=[]) F hr hb hd hx I .nil h)
theorem i5 {pl:Sem Bool}(he:PE X o ta)(c:Rn X.K C)(hm:t8 X.K C m f)(F:BL X.prog X.w X.K X.mg X.base CX k f fd ps sp)(hr:oJ k X.A)(hb:xY X.K fd ps ds)(hd:eG dvs ds)(hx:CY CX X E)(ha:PA X (e::es) t)
  (hst:starEach (e::es) X.env=(false,eval e X.env)::starEach es X.env:=by rfl) (hpl:(backTo pos (starEach es X.env)).any (·.1)=false:=by rfl)
  (ht:eval (.Call (.Attribute o m apos) (e::es) [] pos) X.env=(do
   let ov <-eval o X.env
   standAt apos.atName
   let (f,first) <-holding [ov] (getMethod ov m pl)
   callWith pos f first (backTo pos (starEach (e::es) X.env)) (backToKw pos (keywordEach [] X.env))):=by rfl):
  PE X (.Call (.Attribute o m apos) (e::es) [] pos) (Hc C m sp dvs E ta t):=by
 intro pins s σ H Q I h
 refine PySem.W.methodCall_KW (pl:=pl) (kC (he pins s σ H _ I h) λu s1 ⟨x,H1,I1,rx,q0⟩=> ?_) ht
 obtain⟨a,ex,dx,fs,ea,l,q⟩:=Ra q0
 subst ex
 obtain rfl:u=dQ a:=rx
 refine XJ I1 ea c hm l ?_
 refine PySem.W.callWith_K (first:=[.ref a]) (h₀:=X.base) I.ok.mod.kin hm.kp (kC (ha pos pins s1 σ H1 _ I1 q) λus s2 ⟨vs,H2,I2,r,q2⟩=>⟨I2.kIn,?_⟩) hst hpl
 exact Dy (us:=.ref a::us) (vs:=.ref a::vs) F hr hb hd hx I2 (.cons rfl r) q2
theorem Wr {pl:Sem Bool}(he:PE X o ta)(c:Rn X.K C)(hm:t8 X.K C m f)(F:BL X.prog X.w X.K X.mg X.base CX k f fd ps sp)(hr:oJ k X.A)(hb:xY X.K fd ps ds)(hd:eG dvs ds)(hx:CY CX X E)
  (ht:eval (.Call (.Attribute o m apos) [] [] pos) X.env=(do
   let ov <-eval o X.env
   standAt apos.atName
   let (f,first) <-holding [ov] (getMethod ov m pl)
   callWith pos f first (backTo pos (starEach [] X.env)) (backToKw pos (keywordEach [] X.env))):=by rfl):
  PE X (.Call (.Attribute o m apos) [] [] pos) (Hc C m sp dvs E ta ZI):=by
 intro pins s σ H Q I h
 refine PySem.W.methodCall_KW (pl:=pl) (kC (he pins s σ H _ I h) λu s1 ⟨x,H1,I1,rx,q0⟩=> ?_) ht
 obtain⟨a,ex,dx,fs,ea,l,q⟩:=Ra q0
 subst ex
 obtain rfl:u=dQ a:=rx
 refine XJ I1 ea c hm l ?_
 exact PySem.W.callWith_K0 (first:=[.ref a]) I1.kIn hm.kp (Dy (us:=[.ref a]) (vs:=[.ref a]) F hr hb hd hx I1 (.cons rfl .nil) q)
structure Mk (K:PySem.W.Frag)(C f:Addr):Prop where
 makes:PySem.W.makesIn K C=true
 init:PySem.W.findIn K (.ref C) "__init__"=some (some (.ref f))
 fn:PySem.W.isFn K (.ref f)=true
 kp:PySem.W.keepIn K (.ref C)=true
theorem Ht {pins:List (Addr×Obj)}{σ:St}{H:Hp}{s:aI}{Q:VK}{us:List aC}{vs:List V}(M:Mk X.K C f)(F:BL X.prog X.w X.K X.mg X.base CX k f fd ps sp)(hr:oJ (k+1) X.A)(hb:xY X.K fd ps ds)(hd:eG dvs ds)
  (hx:CY CX X E) (I:Inv X pins σ H s) (r:eG vs us)
  (h:∀x dx,H x=none->H dx=none->dx≠x->sp (.ref x::(vs++dvs)) (upd (upd H dx (.own x)) x (.ins C dx [])) (λv H2=>v=.non/\Q (.ref x) H2) E):
  wpAny (model X.prog X.w) X.A (call (.ref C) us) (EP X pins σ Q) X.xe s:=by
 have hq:=h (s.heap.objs.size+1) s.heap.objs.size (I.hok.fresh (xZ _)) (I.hok.fresh (aU _)) (cJ (Dd _))
 have I2:=Inv.made (C:=C) I
 have r2:eG (V.ref (s.heap.objs.size+1)::(vs++dvs)) (dQ (s.heap.objs.size+1)::(us++ds)):=.cons rfl (r.append hd)
 have hl:(dQ (s.heap.objs.size+1)::us++ds).length=ps.length:=by
  have e:=r2.length
  rw[F.len _ _ _ _ hq] at e
  exact e.symm
 refine Y5 (Xd (f:=f) I.kIn M.makes M.init (beq_iff_eq.mp M.fn) (Gg (F.run _ X.stack _ _ ⟨dQ (s.heap.objs.size+1)::us,[]⟩ (dQ (s.heap.objs.size+1)::(us++ds)) _ _ E (hr.make C us [])
  (I2.env0.make C us []) (hb _ (dQ (s.heap.objs.size+1)::us) I2.kIn hl) r2 hq) λr s' hq'=> ?_))
 cases r with
 | error e=>exact hx pins σ _ _ e s' I2 hq'
 | ok fl=>
  cases fl with
  | ret u=>
   obtain⟨v,H',I3,rv,ev,q3⟩:=I2.after hq'
   subst ev
   exact⟨rv,⟨V.ref (s.heap.objs.size+1),H',I3,rfl,q3⟩⟩
  | next=>exact fS hq'
  | brk=>exact fS hq'
  | cont=>exact fS hq'
theorem i6 (M:Mk X.K C f)(F:BL X.prog X.w X.K X.mg X.base CX k f fd ps sp)(hr:oJ (k+1) X.A)(hg:Gl X x)(hm:X.mg x=some (.ref C))(hb:xY X.K fd ps ds)(hd:eG dvs ds)(hx:CY CX X E)
  (ha:PA X (e::es) t) (hdb:(x==("__debug__":Str))=false:=by decide) (he:starEach (e::es) X.env=(false,eval e X.env)::starEach es X.env:=by rfl) (hpl:(backTo pos (starEach es X.env)).any (·.1)=false:=by rfl):
  PE X (.Call (.Name x p) (e::es) [] pos) (Hd C sp dvs E t):=by
 intro pins s σ H Q I h
 refine jW (OA I hg hm ?_ hdb)
 refine PySem.W.callWith_K (h₀:=X.base) I.ok.mod.kin M.kp (kC (ha pos pins s σ H _ I h) λus s1 ⟨vs,H1,I1,r,q⟩=>⟨I1.kIn,?_⟩) he hpl
 exact Ht M F hr hb hd hx I1 r q
theorem Ws (M:Mk X.K C f)(F:BL X.prog X.w X.K X.mg X.base CX k f fd ps sp)(hr:oJ (k+1) X.A)(hg:Gl X x)(hm:X.mg x=some (.ref C))(hb:xY X.K fd ps ds)(hd:eG dvs ds)(hx:CY CX X E)
  (hdb:(x==("__debug__":Str))=false:=by decide):PE X (.Call (.Name x p) [] [] pos) (Hd C sp dvs E ZI):=by
 intro pins s σ H Q I h
 refine jW (OA I hg hm ?_ hdb)
 exact PySem.W.callWith_K0 I.kIn M.kp (Ht (us:=[]) M F hr hb hd hx I .nil h)
end
structure bV (N P:List Str)(sc:Scope):Prop where
 kind:sc.kind=.function
 co:sc.isCoroutine=false
 gen:sc.isGenerator=false
 nd:N.Nodup
 pre:N.take P.length=P
 par:∀x∈P,sc.names.lookup x=some .local\/sc.names.lookup x=some .cell
 nofree:∀y∈sc.names,y.2≠ .free
theorem Cs {kindOf:Str->Option nG}{x:Str}:∀{binds:List (Str×aC)} {m:Str->Option aC},(∀v,(x,v) ∉ binds)->bindL kindOf binds m x=m x
 | [],_,_=>rfl
 | (n,v)::r,m,h=>by
  unfold bindL
  rw[Cs λw hw=>h w (aN _ hw)]
  split
  ·have:x≠n:=by rintro rfl;exact h v aT
   simp[this]
  ·rfl
theorem Cu {kindOf:Str->Option nG}{x:Str}:∀{binds:List (Str×aC)} {m:Str->Option aC},(∀v,(x,v) ∉ binds)->bindC kindOf binds m x=m x
 | [],_,_=>rfl
 | (n,v)::r,m,h=>by
  unfold bindC
  rw[Cu λw hw=>h w (aN _ hw)]
  split
  ·rfl
  ·have:x≠n:=by rintro rfl;exact h v aT
   simp[this]
theorem Ct {kindOf:Str->Option nG}{x:Str}{v:aC}:∀{P:List Str} {vs:List aC} {i:Nat} {m:Str->Option aC},P.Nodup->P[i]? =some x->vs[i]? =some v->kindOf x=some .local->
  bindL kindOf (P.zip vs) m x=some v
 | [],_,_,_,_,h,_,_=>by simp at h
 | _::_,[],_,_,_,_,h,_=>by simp at h
 | p::P,w::vs,0,m,nd,h1,h2,hk=>by
  simp at h1 h2;subst h1;subst h2
  show bindL kindOf ((p,w)::P.zip vs) m p=_
  unfold bindL
  rw[Cs λv hv=>(dU.mp nd).1 (KL hv).1,if_pos hk]
  simp
 | p::P,w::vs,i+1,m,nd,h1,h2,hk=>by
  show bindL kindOf ((p,w)::P.zip vs) m x=_
  unfold bindL
  exact Ct (i:=i) (dU.mp nd).2 (by simpa using h1) (by simpa using h2) hk
theorem Cv {kindOf:Str->Option nG}{x:Str}{v:aC}:∀{P:List Str} {vs:List aC} {i:Nat} {m:Str->Option aC},P.Nodup->P[i]? =some x->vs[i]? =some v->kindOf x≠some .local->
  bindC kindOf (P.zip vs) m x=some v
 | [],_,_,_,_,h,_,_=>by simp at h
 | _::_,[],_,_,_,_,h,_=>by simp at h
 | p::P,w::vs,0,m,nd,h1,h2,hk=>by
  simp at h1 h2;subst h1;subst h2
  show bindC kindOf ((p,w)::P.zip vs) m p=_
  unfold bindC
  rw[Cu λv hv=>(dU.mp nd).1 (KL hv).1,if_neg hk]
  simp
 | p::P,w::vs,i+1,m,nd,h1,h2,hk=>by
  show bindC kindOf ((p,w)::P.zip vs) m x=_
  unfold bindC
  exact Cv (i:=i) (dU.mp nd).2 (by simpa using h1) (by simpa using h2) hk
def start (N:List Str)(vs:List V):St:=vs.map some++cU (N.length - vs.length) none
def Jv (CX:Zc)(P:bS)(w:cY)(K:PySem.W.Frag)(mg:Str->Option aC)(base:Heap)(N:List Str)(qual:Str)(scope:Scope)(f:Addr)(cd:aC)(A:dZ)(outer:List Env)(s:aI)(H:Hp)(E:XK):Cx where
 prog:=P
 w:=w
 K:=K
 mg:=mg
 base:=base
 A:=A.deeper (envOfC qual scope s.heap.objs.size f cd)
 N:=N
 s_0:=s
 H_0:=H
 env:=envOfC qual scope s.heap.objs.size f cd
 outer:=outer
 stack:=envOfC qual scope s.heap.objs.size f cd::outer
 ex:=[]
 calm:=true
 fn:=λ_=>true
 pn:=[]
 xe:=λe s'=>wpAny (model P w) (A.deeper (envOfC qual scope s.heap.objs.size f cd)) (leaving (envOfC qual scope s.heap.objs.size f cd) e) (λ_ s''=>CX outer H s E e s'') (λe' s''=>CX outer H s E e' s'') s'
theorem Jy {sc:Scope}{n:Nat}{x:Str}(h:sc.names.lookup x=some .cell):∃c,(cellsFrom n sc.names []).lookup x=some c:=by
 have q:=PySem.W.cellsFrom_some sc.names n [] (.inl h)
 exact rW.mp q
theorem Tg {CX:Zc}{P:bS}{w:cY}{K:PySem.W.Frag}{mg:Str->Option aC}{base:Heap}{N ps:List Str}{qual:Str}{scope:Scope}{f:Addr}{cd:aC}{A:dZ}{outer:List Env}{s s1:aI}{H:Hp}{E:XK}{us:List aC}{vs:List V}
  (S:bV N ps scope) (hd:A.handled=none) (e0:Ol P w K mg base A outer s H) (hl:vs.length=ps.length) (r:eG vs us)
  (x:InCallC s s.heap.objs.size (bindL (envOfC qual scope s.heap.objs.size f cd).kindOf (ps.zip us) λ_=>none) (cellsFrom (s.heap.objs.size+1) scope.names []) (bindC (envOfC qual scope s.heap.objs.size f cd).kindOf (ps.zip us) λ_=>none) s1):
  Inv (Jv CX P w K mg base N qual scope f cd A outer s H E) [] (start N vs) H s1:=by
 have hpl:ps.length<=N.length:=by have:=congrArg iI S.pre;rw[iH] at this;omega
 obtain⟨h1,tk,rfl,hk⟩:=x.done
 have noA:∀b:Addr,b ∉ (Jv CX P w K mg base N qual scope f cd A outer s H E).ex:=λb z=>absurd (show b∈([]:List Addr) from z) (by simp)
 refine⟨⟨e0.mod,S.kind,rfl,rfl,aU _,λy z c h1 h2=> ?_,λy hy=> ?_,λy c _ h=> ?_,λ_=>hd,Ul e0.frames,.inr ⟨rfl,rfl⟩,λb z=>absurd z (noA b),e0.bs,e0.bsz,λb _ _=>noA b,λb z=>absurd z (noA b),e0.funs,e0.frf⟩,
  rfl,e0.bare,Un.kept hk,⟨_,x.toInCall.ns,λi y v h1 h2 h3=> ?_⟩,λy c h=>⟨_,x.cell y c h⟩,e0.hok.fresh (aU _),λy c h=> ?_,λp hp=>absurd (show p∈([]:List (Addr×Obj)) from hp) (by simp),e0.hok.kept hk,?_⟩
 ·exact name_of_addr x.apart (PySem.mem_of_lookup h1) (PySem.mem_of_lookup h2)
 ·have hy:scope.names.lookup y=some .cell\/scope.names.lookup y=some .free:=hy
  rcases hy with hy | hy
  ·exact Jy hy
  ·exact absurd rfl (S.nofree _ (PySem.mem_of_lookup hy))
 ·exact KJ (x.above y c (PySem.mem_of_lookup h))
 ·have hi:i < vs.length:=by
   unfold start at h2
   by_cases hi:i < vs.length
   ·exact hi
   ·rw[Km (by simpa using hi)] at h2
    rw[List.getElem?_replicate] at h2
    split at h2 <;> cases h2
  have ha:vs[i]? =some v:=by
   unfold start at h2
   rw[Ky (by simpa using hi),aP] at h2
   cases e:vs[i]? with
   | none=>rw[e] at h2;cases h2
   | some a=>rw[e] at h2;cases h2;rfl
  obtain⟨u,hu,rv⟩:=r.get ha
  have hp:ps[i]? =some y:=by
   rw[<-S.pre,Oi (by omega)];exact h1
  have ndP:ps.Nodup:=by rw[<-S.pre];exact S.nd.sublist (List.take_sublist _ _)
  refine⟨u,rv,?_⟩
  rcases S.par y (aY hp) with k | k
  ·exact .inl ⟨k,Ct ndP hp hu k⟩
  ·obtain⟨c,e⟩:=Jy (n:=s.heap.objs.size+1) k
   refine .inr ⟨.inl k,c,e,?_⟩
   have q:=x.cell y c e
   rw[Cv ndP hp hu (by show scope.names.lookup y≠_;rw[k];decide)] at q
   exact q
 ·exact e0.hok.fresh (KJ (x.above y c (PySem.mem_of_lookup h)))
 ·unfold start
  show _=N.length
  rw[bZ,aA,Vi]
  omega
theorem z8 {CX:Zc}{P:bS}{w:cY}{K:PySem.W.Frag}{mg:Str->Option aC}{base:Heap}{k:Nat}{f:Addr}{name qual:Str}{params:Arguments}{body:List Stmt}{scope:Scope}{dV kV doc pm cdv ct oc:aC}{an od:Option Addr}
  {osl:Array (Option aC)} {N ps:List Str} {sp:Sp} (lk:K.lookup f=some ⟨oc,od,.func (PySem.W.fnOf name qual params body scope dV kV doc pm an cdv ct),osl⟩) (hcd:PySem.W.codeIn K cdv qual=true) (S:bV N ps scope)
  (len:∀vs H Q E,sp vs H Q E->vs.length=ps.length)
  (hbody:∀(A:dZ) (outer:List Env) (s:aI) (H:Hp) (vs:List V) (Q:VK) (E:XK),oJ k (A.deeper (envOfC qual scope s.heap.objs.size f cdv))->sp vs H Q E->
   ∃t,Ri (Jv CX P w K mg base N qual scope f cdv A outer s H E) body t/\t { nx:=λ_ H'=>Q .non H',rt:=Q } (start N vs) H):
  BL P w K mg base CX (k+1) f (PySem.W.fnOf name qual params body scope dV kV doc pm an cdv ct) ps sp:=by
 refine⟨len,λA outer s H args us vs Q E hr e0 hb r hsp=> ?_⟩
 have hl:=len _ _ _ _ hsp
 have KX:K.In s.heap:=e0.mod.kin.keeps λb o e=>(e0.bs b o e).1
 have lim:s.heap.NoLimit:=e0.mod.nolimit.keeps λb o e=>(e0.bs b o e).1
 have hkind:∀y∈ps.zip us,scope.names.lookup y.1=some .local\/(scope.names.lookup y.1=some .cell/\((cellsFrom (s.heap.objs.size+1) scope.names []).lookup y.1).isSome=true):=λ⟨n,v⟩ hy=>by
  rcases S.par n (KL hy).1 with q | q
  ·exact .inl q
  ·exact .inr ⟨q,PySem.W.cellsFrom_some _ _ _ (.inl q)⟩
 refine codeAny_call_function hr.depth (KX _ _ lk) rfl S.co S.gen rfl (PySem.W.codeRec_of KX hcd) (hb _ _ _ _ ?_)
 refine wpAny_newFunctionEnv_cells S.kind hkind λenv he s1 x=> ?_
 subst he
 refine⟨lim.keeps x.toInCall.keep,codeAny_func ?_⟩
 obtain⟨t,ht,hq⟩:=hbody A outer s H vs Q E (hr.deeper _) hsp
 have I:Inv (Jv CX P w K mg base N qual scope f cdv A outer s H E) [] (start N vs) H s1:=Tg S hr.hd e0 hl r x
 refine jD (ht [] s1 (start N vs) H _ I hq) (λfl s' hs=> ?_) λe s' hs=>hs
 have fin:∀{σ':St} {H':Hp} {v:V} {u:aC},Inv (Jv CX P w K mg base N qual scope f cdv A outer s H E) [] σ' H' s'->RelV v u->Q v H'->CE outer P w H s Q u s':=
  λ{σ' H' v u} J rv q=>⟨v,H',J.os,J.bare,J.base,J.hok,rv,q⟩
 cases fl with
 | ret u=>
  obtain⟨v,σ',H',J,rv,q⟩:=hs
  exact fin J rv q
 | next=>
  obtain⟨σ',H',J,q⟩:=hs
  exact fin (v:=V.non) (u:=oI) J rfl q
 | brk=>
  obtain⟨_,_,_,q⟩:=hs
  exact fS q
 | cont=>
  obtain⟨_,_,_,q⟩:=hs
  exact fS q
end L2
namespace L2
open PySem PySem.Spec PyProof.Rows
section
variable {X:Cx}{x:Str}{p pos:Pos}{e:Expr}{es:List Expr}{t:TA}{id T:String}{r:List V->Hp->VK->Prop}
def Z8 (r:List V->Hp->VK->Prop)(t:TA):TE:=λσ H Q=>t σ H λvs H1=>r vs H1 Q
theorem eQ (hc:ED X (.builtin id) r)(hg:Gl X x)(hm:X.mg x=none)(hv:bootBuiltins x=some (.builtin id))(ha:PA X (e::es) t)(hn:x≠"__name__":=by decide)(hdb:(x==("__debug__":Str))=false:=by decide)
  (he:starEach (e::es) X.env=(false,eval e X.env)::starEach es X.env:=by rfl) (hpl:(backTo pos (starEach es X.env)).any (·.1)=false:=by rfl):PE X (.Call (.Name x p) (e::es) [] pos) (Z8 r t):=by
 intro pins s σ H Q I h
 refine jW (xO I hg hm hv ?_ hn hdb)
 exact PyProof.Rows.callWith_builtin1 (kC (ha pos pins s σ H _ I h) λus s1 ⟨vs,H1,I1,r1,q1⟩=>hc pins s1 σ H1 vs us Q I1 r1 q1) he hpl
theorem HS (hc:ED X (.type T) r)(hg:Gl X x)(hm:X.mg x=none)(hv:bootBuiltins x=some (.type T))(ha:PA X (e::es) t)(hn:x≠"__name__":=by decide)(hdb:(x==("__debug__":Str))=false:=by decide)
  (he:starEach (e::es) X.env=(false,eval e X.env)::starEach es X.env:=by rfl) (hpl:(backTo pos (starEach es X.env)).any (·.1)=false:=by rfl):PE X (.Call (.Name x p) (e::es) [] pos) (Z8 r t):=by
 intro pins s σ H Q I h
 refine jW (xO I hg hm hv ?_ hn hdb)
 exact eS (kC (ha pos pins s σ H _ I h) λus s1 ⟨vs,H1,I1,r1,q1⟩=>hc pins s1 σ H1 vs us Q I1 r1 q1) he hpl
end
end L2
namespace HT
open PySem PyProof.Rows
def lexLt:List Int->List Int->Bool
 | [],[]=>false
 | [],_::_=>true
 | _::_,[]=>false
 | x::xs,y::ys=>if x=y then lexLt xs ys else decide (x < y)
theorem lexLt_cons (x y:Int)(xs ys:List Int):lexLt (x::xs) (y::ys)=if x=y then lexLt xs ys else decide (x < y):=rfl
theorem rcLt_int (A:dZ)(s:aI)(a:Int)(t:Tok)(c:Int)(u:Tok)(prog:bS)(w:cY)(E:aC->aI->Prop)(Q:aC->aI->Prop)(h:Q (.bool (decide (a < c))) s):
  wpAny (model prog w) A (richCompare .Lt (.int a t) (.int c u)) Q E s:=
 (W3 h:wpAny (model prog w) A (compareOp .Lt (.int a t) (.int c u)) Q E s)
section
variable {prog:bS}{w:cY}{A:dZ}{E:aC->aI->Prop}{s:aI}
def sIx (n d:Nat):Option Int->Nat
 | none=>d
 | some v=>if v < 0 then(v+(n:Int)).toNat else min v.toNat n
theorem sIx_none (n d:Nat):sIx n d none=d:=rfl
theorem sIx_nat (n d k:Nat):sIx n d (some (k:Int))=min k n:=by
 show(if(k:Int) < 0 then((k:Int)+(n:Int)).toNat else min (k:Int).toNat n)=min k n
 rw[if_neg (by omega),kN]
end
end HT
namespace L2
open PySem PySem.Spec PyProof.Rows
abbrev TO:=St->Hp->(Option Int->Hp->Prop)->Prop
def PO (X:Cx)(e:Option Expr)(t:TO):Prop:=
 ∀(pins:List (Addr×Obj)) (s:aI) (σ:St) (H:Hp) (Q:Option Int->Hp->Prop),Inv X pins σ H s->t σ H Q->
  wpAny (model X.prog X.w) X.A (evalPart e X.env) (λu s'=>∃o H',Inv X pins σ H' s'/\IsPart u o/\Q o H') X.xe s
def UC:TO:=λ_ H Q=>Q none H
def Ap (t:TE):TO:=λσ H Q=>t σ H λx H1=>∃i,x=.int i/\Q (some i) H1
section
variable {X:Cx}{e:Expr}{te:TE}{lo hi:Option Expr}{tl th:TO}{pos p2:Pos}
theorem Pi:PO X none UC:=by
 intro pins s σ H Q I h
 rw[evalPart_none]
 exact bC ⟨none,H,I,.none,h⟩
theorem HQ (h:PE X e te):PO X (some e) (Ap te):=by
 intro pins s σ H Q I hw
 rw[evalPart_some]
 refine kC (h pins s σ H _ I hw) λu s1 ⟨x,H1,I1,r1,q1⟩=> ?_
 obtain⟨i,rfl,q⟩:=q1
 obtain⟨t,rfl⟩:=r1
 exact⟨some i,H1,I1,.int i t,q⟩
def SlR (X:Cx)(r:V->Option Int->Option Int->Hp->VK->Prop):Prop:=
 ∀(pins:List (Addr×Obj)) (s:aI) (σ:St) (H:Hp) (x:V) (v vl vu:aC) (lo hi:Option Int) (sl:Addr) (Q:VK),Inv X pins σ H s->RelV x v->s.heap.IsSliceOf sl vl vu .none->IsPart vl lo->IsPart vu hi->r x lo hi H Q->
  ∃T id,typeLookup (.type T) "__getitem__"=pure (some (.builtin id))/\s.TypeIs v T/\wpAny (model X.prog X.w) X.A (getItem v (.ref sl)) (EP X pins σ Q) X.xe s
def P0 (r:V->Option Int->Option Int->Hp->VK->Prop)(te:TE)(tl th:TO):TE:=λσ H Q=>te σ H λx H1=>tl σ H1 λl H2=>th σ H2 λu H3=>r x l u H3 Q
theorem NM {r:V->Option Int->Option Int->Hp->VK->Prop}(hr:SlR X r)(he:PE X e te)(hl:PO X lo tl)(hu:PO X hi th):PE X (.Subscript e (.Slice lo hi none p2) pos) (P0 r te tl th):=by
 intro pins s σ H Q I h
 refine Z0 (kC (he pins s σ H _ I h) λv s1 ⟨x,H1,I1,r1,q1⟩=> ?_)
 refine wpAny_Slice (kC (hl pins s1 σ H1 _ I1 q1) λvl s2 ⟨l,H2,I2,pl,q2⟩=>kC (hu pins s2 σ H2 _ I2 q2) λvu s3 ⟨u,H3,I3,pu,q3⟩=> ?_)
 rw[evalPart_none]
 refine bC ?_
 have I4:Inv X pins σ H3 { s3 with heap:=s3.heap.push { cls:=.type "slice",data:=.fields #[vl,vu,.none] } }:=I3.kept (t':=s3.toks) λb ob q=>aG _ q
 obtain⟨T,id,hT,ht,hg⟩:=hr pins { s3 with heap:=s3.heap.push { cls:=.type "slice",data:=.fields #[vl,vu,.none] } } σ H3 x v vl vu l u s3.heap.objs.size Q I4 r1 (dv ..) pl pu q3
 show wpAny (model X.prog X.w) X.A (subscriptTail e (.Slice lo hi none p2) v (.ref s3.heap.objs.size)) (EP X pins σ Q) X.xe { s3 with heap:=s3.heap.push { cls:=.type "slice",data:=.fields #[vl,vu,.none] } }
 exact tail_any (ops:=[.ref s3.heap.objs.size,v]) ht hT hg (by with_unfolding_all rfl)
def QT (xs:List V)(lo hi:Option Int):List V:=(xs.drop (HT.sIx xs.length 0 lo)).take (HT.sIx xs.length xs.length hi - HT.sIx xs.length 0 lo)
theorem Jw (xs:List V)(lo hi:Option Int):(QT xs lo hi).length<=xs.length:=by
 unfold QT
 rw[iH,qS]
 omega
end
end L2
namespace L2
open PySem PySem.Spec PyProof.Rows
def l7 (n:Nat)(i:Int):Option Nat:=if 0<=i then(if i < n then some i.toNat else none) else if -(n:Int)<=i then some (i+n).toNat else none
def L8 {α:Type}(xs:List α)(i:Int):Option α:=(l7 xs.length i).bind λj=>xs[j]?
theorem Qi {n:Nat}{i:Int}{j:Nat}(h:l7 n i=some j):seqIndex? i n=some j/\j < n/\ -(n:Int)<=i/\i < n:=by
 unfold l7 at h
 by_cases h0:0<=i
 ·rw[if_pos h0] at h
  by_cases h1:i < n
  ·rw[if_pos h1] at h
   have e:i.toNat=j:=cX h
   exact⟨by rw[P3 h0 h1,e],by omega,by omega,h1⟩
  ·rw[if_neg h1] at h;cases h
 ·rw[if_neg h0] at h
  by_cases h1: -(n:Int)<=i
  ·rw[if_pos h1] at h
   have e:(i+n).toNat=j:=cX h
   exact⟨by rw[A6 (by omega) h1,e],by omega,h1,by omega⟩
  ·rw[if_neg h1] at h;cases h
theorem Qz {α:Type}{xs:List α}{i:Int}{v:α}(h:L8 xs i=some v):∃j,seqIndex? i xs.length=some j/\xs[j]? =some v/\j < xs.length/\ -(xs.length:Int)<=i/\i < xs.length:=by
 unfold L8 at h
 cases e:l7 xs.length i with
 | none=>rw[e] at h;cases h
 | some j=>
  rw[e] at h
  obtain⟨h1,h2,h3,h4⟩:=Qi e
  exact⟨j,h1,h,h2,h3,h4⟩
theorem o9 {α:Type}{xs:List α}{j:Nat}{v:α}(h:xs[j]? =some v):L8 xs (j:Int)=some v:=by
 have hj:j < xs.length:=(bL.mp h).1
 have e:l7 xs.length (j:Int)=some j:=by
  unfold l7
  rw[if_pos (by omega),if_pos (by omega)];simp
 unfold L8;rw[e];exact h
def r9 (b:Expr):Prop:=∀o i,subscripted b false o i=operate [o,i] (getItem o i)
def Z6 (X:Cx)(r:R2):Prop:=
 ∀(value slice:Expr) (pins:List (Addr×Obj)) (s:aI) (σ:St) (H:Hp) (x y:V) (v u:aC) (Q:VK),Inv X pins σ H s->RelV x v->RelV y u->r x y H Q->
  subscripted slice false v u=operate [v,u] (getItem v u)->wpAny (model X.prog X.w) X.A (subscriptTail value slice v u) (EP X pins σ Q) X.xe s
def MtR (X:Cx)(id:String)(r:V->List V->Hp->VK->Prop):Prop:=
 ∀(pins:List (Addr×Obj)) (s:aI) (σ:St) (H:Hp) (x:V) (xs:List V) (v:aC) (us:List aC) (Q:VK),Inv X pins σ H s->RelV x v->eG xs us->r x xs H Q->
  wpAny (model X.prog X.w) X.A (call (.builtin id) (v::us)) (EP X pins σ Q) X.xe s
section
variable {X:Cx}{a b:Expr}{ta tb:TE}{pos:Pos}
theorem uM {r:R2}(hr:Z6 X r)(ha:PE X a ta)(hb:PE X b tb)(hs:r9 b):PE X (.Subscript a b pos) (x4 r ta tb):=by
 intro pins s σ H Q I h
 exact Z0 (L7 ha hb I h λv u s2 x y H2 I2 rx ry q=>hr a b pins s2 σ H2 x y v u Q I2 rx ry q (hs _ _))
def R0 (K:PySem.W.Frag):R2:=λx y H Q=>∃p xs i v,x=.ref p/\y=.int i/\dX K H p xs/\L8 xs i=some v/\Q v H
def ah (K:PySem.W.Frag):R2:=λx y H Q=>∃p xs i v,x=.ref p/\y=.int i/\KH K H p xs/\L8 xs i=some v/\Q v H
theorem qE:Z6 X (R0 X.K):=by
 intro value slice pins s σ H x y v u Q I rx ry h hs
 obtain⟨p,xs,i,z,rfl,rfl,hq,he,q⟩:=h
 cases rx
 obtain⟨t,rfl⟩:=ry
 obtain⟨its,r,pl,hz⟩:=I.list hq
 obtain⟨j,h1,h2,h3,h4,h5⟩:=Qz he
 obtain⟨w,ew,rw'⟩:=r.get h2
 have hl:=r.length
 have hn:=Eu
 have fin:EP X pins σ Q w s:=⟨z,H,I,rw',q⟩
 by_cases h0:0<=i
 ·have hj:i.toNat=j:=by
   rw[P3 h0 h5] at h1
   exact cX h1
  exact item_listR pl.isList h0 (by omega) (by rw[hj];simpa using ew) fin hs
 ·have hj:(i+(its.toArray.size:Int)).toNat=j:=by
   rw[A6 (by omega) h4] at h1
   rw[bK, <-hl]
   exact cX h1
  exact A9 (x:=w) pl.isList.typeIs dj.lookup
   (wpAny_getItem_list_neg (Q:=λr s'=>r=w/\EP X pins σ Q r s') pl.isList (by omega) (by rw[bK] <;> omega) (by omega) (by rw[hj];simpa using ew) ⟨rfl,fin⟩) hs
theorem XF:Z6 X (ah X.K):=by
 intro value slice pins s σ H x y v u Q I rx ry h hs
 obtain⟨p,xs,i,z,rfl,rfl,hq,he,q⟩:=h
 cases rx
 obtain⟨t,rfl⟩:=ry
 obtain⟨its,r,pl,hz⟩:=I.tuple hq
 obtain⟨j,h1,h2,h3,h4,h5⟩:=Qz he
 obtain⟨w,ew,rw'⟩:=r.get h2
 have hl:=r.length
 have hn:=Eu
 have fin:EP X pins σ Q w s:=⟨z,H,I,rw',q⟩
 exact A9 (x:=w) pl.typeIs slot_tuple_getitem.lookup
  (getItem_tuple (j:=j) (Q:=λr s'=>r=w/\EP X pins σ Q r s') pl (by omega) (by omega) (by rw[bK, <-hl];exact h1) (by simpa using ew) ⟨rfl,fin⟩) hs
theorem Mx (its:List aC)(n j:Nat)(u:aC):eJ (·.setIfInBounds j u) { cls:=.type "list",data:=.seq its.toArray n }={ cls:=.type "list",data:=.seq (its.set j u).toArray n }:=by
 simp[eJ]
theorem Inv.lst {pins:List (Addr×Obj)}{σ:St}{H:Hp}{s:aI}{p:Addr}{xs:List V}(I:Inv X pins σ H s)(h:H p=some (.lst xs)):
  ∃(its:List aC) (n:Nat),eG xs its/\s.heap.get? p=some { cls:=.type "list",data:=.seq its.toArray n }/\xs.length<=sizeLine:=by
 obtain⟨z,its,n,r,e⟩:=I.hok p _ h
 exact⟨its,n,r,e,z⟩
theorem Inv.lstUpd {pins:List (Addr×Obj)}{σ:St}{H:Hp}{s:aI}{p:Addr}{xs ys:List V}{its its':List aC}{n n':Nat}{f:Obj->Obj}(I:Inv X pins σ H s)(h:H p=some (.lst xs))
  (ho:s.heap.get? p=some { cls:=.type "list",data:=.seq its.toArray n }) (hf:f { cls:=.type "list",data:=.seq its.toArray n }={ cls:=.type "list",data:=.seq its'.toArray n' }) (r:eG ys its') (hz:ys.length<=sizeLine) (t:Nat):
  Inv X pins σ (upd H p (.lst ys)) { s with heap:=s.heap.update p f,toks:=t }:=by
 have e:(s.heap.update p f).get? p=some { cls:=.type "list",data:=.seq its'.toArray n' }:=by
  rw[lP f ho (by rw[hf] <;> rfl),hf]
 refine I.write (x:=p) (e:=p) (by rw[h];trivial) (.inl rfl) (λb u hb q=>(gL _ _ (fE hb)).trans q) ⟨_,e⟩ ?_
 exact⟨hz,its',n',r,e⟩
def Q7:V->V->V->Hp->(Hp->Prop)->Prop:=λo i v H Q=>∃p xs k j,o=.ref p/\i=.int k/\H p=some (.lst xs)/\l7 xs.length k=some j/\Q (upd H p (.lst (xs.set j v)))
theorem Hm:W7 X Q7:=by
 intro pins s σ H o i v ov iv u Q I ro ri rv h
 obtain⟨p,xs,k,j,rfl,rfl,hp,hj,q⟩:=h
 cases ro
 obtain⟨t,rfl⟩:=ri
 obtain⟨its,n,r,ho,hz⟩:=I.lst hp
 obtain⟨h1,h2,h3,h4⟩:=Qi hj
 have hl:=r.length
 have hn:=Eu
 have I':Inv X pins σ (upd H p (.lst (xs.set j v))) { s with heap:=s.heap.update p (eJ (·.setIfInBounds j u)) }:=
  I.lstUpd hp ho (Mx its n j u) (r.set rv j) (by rw[dO];exact hz) s.toks
 by_cases h0:0<=k
 ·have hk:k.toNat=j:=by
   rw[P3 h0 h4] at h1
   exact cX h1
  exact PySem.W.ki_setAt ho h0 (by omega) (by rw[bK, <-hl];exact h4) (by rw[hk];exact⟨_,I',q⟩)
 ·have hk:(k+(its.toArray.size:Int)).toNat=j:=by
   rw[A6 (by omega) h3] at h1
   rw[bK, <-hl]
   exact cX h1
  exact PySem.W.ki_setBack ho (by omega) (by rw[bK, <-hl];exact h3) (by omega) (by rw[hk];exact⟨_,I',q⟩)
theorem Dl (lo hi:Option Int)(n:Nat):(sliceBounds lo hi none n).1=((HT.sIx n 0 lo:Nat):Int)/\(sliceBounds lo hi none n).2.1=((HT.sIx n n hi:Nat):Int)/\(sliceBounds lo hi none n).2.2=1:=by
 refine⟨?_,?_,rfl⟩
 ·cases lo with
  | none=>simp[sliceBounds,HT.sIx]
  | some i=>
   simp only[sliceBounds,HT.sIx,t5,show(1:Int) > 0 by decide,if_true]
   by_cases h:i < 0
   ·simp only[h,if_true] <;> omega
   ·simp only[h,if_false] <;> omega
 ·cases hi with
  | none=>simp[sliceBounds,HT.sIx]
  | some i=>
   simp only[sliceBounds,HT.sIx,t5,show(1:Int) > 0 by decide,if_true]
   by_cases h:i < 0
   ·simp only[h,if_true] <;> omega
   ·simp only[h,if_false] <;> omega
theorem ZM (its:List aC)(lo hi:Option Int):slicePick its.toArray lo hi none=((its.drop (HT.sIx its.length 0 lo)).take (HT.sIx its.length its.length hi - HT.sIx its.length 0 lo)).toArray:=by
 obtain⟨h1,h2,h3⟩:=Dl lo hi its.toArray.size
 unfold slicePick
 rw[h1,h2,h3]
 simp only[sliceRange_one,pick_run,bK] <;> rfl
def Sg (K:PySem.W.Frag):V->Option Int->Option Int->Hp->VK->Prop:=λx lo hi H Q=>∃a xs,x=.ref a/\dX K H a xs/\∀p,H p=none->Q (.ref p) (upd H p (.lst (QT xs lo hi)))
theorem UH:SlR X (Sg X.K):=by
 intro pins s σ H x v vl vu lo hi sl Q I rx hs pl pu h
 obtain⟨a,xs,rfl,hx,q⟩:=h
 cases rx
 obtain⟨its,r,ht,hz⟩:=I.list hx
 have hlen:=r.length
 refine⟨"list",_,dj.lookup,ht.isList.typeIs,?_⟩
 refine wpAny_getItem_list_slice ht.isList hs pl pu .none (by simp) ?_ (by rw[bK] <;> omega)
 rw[ZM, <-hlen]
 refine⟨.ref s.heap.objs.size,_,I.laid (t':=s.toks) (o:=.lst (QT xs lo hi)) (λb ob q=>aG _ q) (aU _) ?_,rfl,q _ (I.hok.fresh (aU _))⟩
 exact⟨cV (Jw xs lo hi) hz,_,0,(r.drop (HT.sIx xs.length 0 lo)).take (HT.sIx xs.length xs.length hi - HT.sIx xs.length 0 lo),bF _ rfl⟩
def BE:V->Bool
 | .non=>true
 | .bl _=>true
 | .int _=>true
 | .str _=>true
 | _=>false
def Zi:V->V->Bool
 | .non,.non=>true
 | .bl a,.bl b=>a==b
 | .bl a,.int b=>(if a then 1 else 0)==b
 | .int a,.bl b=>a==(if b then 1 else 0)
 | .int a,.int b=>a==b
 | .str a,.str b=>a==b
 | _,_=>false
theorem K1 {A:dZ}{s:aI}{y x:V}{u v:aC}(ry:RelV y u)(rx:RelV x v)(fy:BE y=true)(fx:BE x=true):IF A s u v (Zi y x):=by
 cases y with
 | non=>
  cases ry
  cases x with
  | non=>cases rx;exact SeqAt.EqAt.same _
  | bl b=>cases rx;exact SeqAt.EqAt.none_bool b
  | int b=>obtain⟨t,rfl⟩:=rx;exact SeqAt.EqAt.none_int b t
  | str b=>obtain⟨t,rfl⟩:=rx;exact SeqAt.EqAt.none_str b t
  | _=>exact absurd (show false=true from fx) bP
 | bl a=>
  cases ry
  cases x with
  | non=>cases rx;exact SeqAt.EqAt.bool_none a
  | bl b=>cases rx;exact SeqAt.EqAt.bool_bool a b
  | int b=>obtain⟨t,rfl⟩:=rx;exact SeqAt.EqAt.bool_int a b t
  | str b=>obtain⟨t,rfl⟩:=rx;exact SeqAt.EqAt.bool_str a b t
  | _=>exact absurd (show false=true from fx) bP
 | int a=>
  obtain⟨t',rfl⟩:=ry
  cases x with
  | non=>cases rx;exact SeqAt.EqAt.int_none a t'
  | bl b=>cases rx;exact SeqAt.EqAt.int_bool a t' b
  | int b=>obtain⟨t,rfl⟩:=rx;exact LX a t' b t
  | str b=>obtain⟨t,rfl⟩:=rx;exact Nw a t' b t
  | _=>exact absurd (show false=true from fx) bP
 | str a=>
  obtain⟨t',rfl⟩:=ry
  cases x with
  | non=>cases rx;exact SeqAt.EqAt.str_none a t'
  | bl b=>cases rx;exact SeqAt.EqAt.str_bool a t' b
  | int b=>obtain⟨t,rfl⟩:=rx;exact Nv a t' b t
  | str b=>obtain⟨t,rfl⟩:=rx;exact SeqAt.EqAt.str_str a t' b t
  | _=>exact absurd (show false=true from fx) bP
 | _=>exact absurd (show false=true from fy) bP
def Ks (x:V)(u:aC):Bool:=match u with
 | .none=>Zi .non x
 | .bool b=>Zi (.bl b) x
 | .int i _=>Zi (.int i) x
 | .str z _=>Zi (.str z) x
 | _=>false
theorem Fh {x y:V}{u:aC}(r:RelV y u)(f:BE y=true):Ks x u=Zi y x:=by
 cases y with
 | non=>cases r;rfl
 | bl b=>cases r;rfl
 | int i=>obtain⟨t,rfl⟩:=r;rfl
 | str z=>obtain⟨t,rfl⟩:=r;rfl
 | _=>exact absurd (show false=true from f) bP
theorem OQ {x:V}:∀{xs:List V} {us:List aC},eG xs us->xs.all BE=true->us.any (Ks x)=xs.any λy=>Zi y x
 | _,_,.nil,_=>rfl
 | y::xs,u::us,.cons r t,f=>by
  rw[ET,bH] at f
  rw[ES,ES,Fh r f.1,OQ t f.2]
theorem BC {A:dZ}{s:aI}{x:V}{v:aC}(rx:RelV x v)(fx:BE x=true):∀{xs:List V} {us:List aC},eG xs us->xs.all BE=true->∀u∈us,IF A s u v (Ks x u)
 | _,_,.nil,_=>λu hu=>by cases hu
 | y::xs,u::us,.cons r t,f=>λu' hu=>by
  rw[ET,bH] at f
  rcases bN.mp hu with rfl | hu
  ·rw[Fh r f.1];exact K1 r rx f.1 fx
  ·exact BC rx fx t f.2 u' hu
def G9 (x:V)(xs:List V):Bool:=xs.any λy=>Zi y x
def Y2 (K:PySem.W.Frag)(neg:Bool):R2:=λx y H Q=>∃p xs,y=.ref p/\(dX K H p xs\/KH K H p xs)/\BE x=true/\xs.all BE=true/\Q (.bl (if neg then !G9 x xs else G9 x xs)) H
theorem HV:PD X (compareOp .In) (Y2 X.K false):=by
 intro pins s σ H x y v u Q I rx ry h
 obtain⟨p,xs,rfl,hq,fx,fs,q⟩:=h
 cases ry
 rcases hq with hq | hq
 ·obtain⟨its,r,pl,hz⟩:=I.list hq
  refine SeqAt.in_listAt (Ks x) pl.isList (λw hw=>BC rx fx r fs w (by simpa using hw)) ⟨.bl _,H,I,rfl,?_⟩
  rw[show its.toArray.any (Ks x)=its.any (Ks x) by simp,OQ r fs]
  exact q
 ·obtain⟨its,r,pl,hz⟩:=I.tuple hq
  refine SeqAt.in_tupleAt (Ks x) pl (λw hw=>BC rx fx r fs w (by simpa using hw)) ⟨.bl _,H,I,rfl,?_⟩
  rw[show its.toArray.any (Ks x)=its.any (Ks x) by simp,OQ r fs]
  exact q
theorem CC:PD X (compareOp .NotIn) (Y2 X.K true):=by
 intro pins s σ H x y v u Q I rx ry h
 obtain⟨p,xs,rfl,hq,fx,fs,q⟩:=h
 cases ry
 rcases hq with hq | hq
 ·obtain⟨its,r,pl,hz⟩:=I.list hq
  refine SeqAt.notIn_listAt (Ks x) pl.isList (λw hw=>BC rx fx r fs w (by simpa using hw)) ⟨.bl _,H,I,rfl,?_⟩
  rw[show its.toArray.any (Ks x)=its.any (Ks x) by simp,OQ r fs]
  exact q
 ·obtain⟨its,r,pl,hz⟩:=I.tuple hq
  refine SeqAt.notIn_tupleAt (Ks x) pl (λw hw=>BC rx fx r fs w (by simpa using hw)) ⟨.bl _,H,I,rfl,?_⟩
  rw[show its.toArray.any (Ks x)=its.any (Ks x) by simp,OQ r fs]
  exact q
theorem eR:ED X (.builtin "len") (λxs H Q=>∃p ys,xs=[.ref p]/\(dX X.K H p ys\/KH X.K H p ys)/\Q (.int ys.length) H):=by
 intro pins s σ H xs us Q I r h
 obtain⟨p,ys,rfl,hq,q⟩:=h
 obtain⟨u,rfl,rx⟩:=Os r
 cases rx
 have hn:=Eu
 rcases hq with hq | hq
 ·obtain⟨its,r',pl,hz⟩:=I.list hq
  have hlen:=r'.length
  exact Calls.call_len_list pl.isList (by simp only[bK] <;> omega) ⟨.int ys.length,H,I.tok _,⟨s.toks+1,by rw[bK,hlen]⟩,q⟩
 ·obtain⟨its,r',pl,hz⟩:=I.tuple hq
  have hlen:=r'.length
  exact len_tuple pl (by simp only[bK] <;> omega) ⟨.int ys.length,H,I.tok _,⟨s.toks+1,by rw[bK,hlen]⟩,q⟩
theorem OL:ED X (.type "list") (λxs H Q=>∃p ys,xs=[.ref p]/\(dX X.K H p ys\/KH X.K H p ys)/\∀l,H l=none->Q (.ref l) (upd H l (.lst ys))):=by
 intro pins s σ H xs us Q I r h
 obtain⟨p,ys,rfl,hq,q⟩:=h
 obtain⟨u,rfl,rx⟩:=Os r
 cases rx
 have fin:∀(its:List aC),eG ys its->ys.length<=sizeLine->∀(h':Heap) (c':Nat),(∀b o',s.heap.get? b=some o'->h'.get? b=some o')->
   h'.get? s.heap.objs.size=some { cls:=.type "list",dict:=none,data:=.seq its.toArray c',slots:= #[] }->EP X pins σ Q (.ref s.heap.objs.size) { s with heap:=h' }:=λits r' hz h' c' kp e=>
  ⟨.ref s.heap.objs.size,_,I.laid (t':=s.toks) kp (aU _) (show kH X.prog X.w _ h' _ (.lst ys) from⟨hz,its,c',r',e⟩),rfl,q _ (I.hok.fresh (aU _))⟩
 rcases hq with hq | hq
 ·obtain⟨its,r',pl,hz⟩:=I.list hq
  have hlen:=r'.length
  obtain⟨o,ho,hc,n,hd⟩:=pl.isList
  exact call_list_seq p (.inl rfl) ho hc hd (λh' c' kp e=>fin its r' hz h' c' kp e) (by simp only[bK] <;> omega)
 ·obtain⟨its,r',pl,hz⟩:=I.tuple hq
  have hlen:=r'.length
  obtain⟨o,ho,hc,n,hd⟩:=pl
  exact call_list_seq p (.inr rfl) ho hc hd (λh' c' kp e=>fin its r' hz h' c' kp e) (by simp only[bK] <;> omega)
theorem KF:ED X (.type "tuple") (λxs H Q=>∃p ys,xs=[.ref p]/\((dX X.K H p ys/\∀l,H l=none->Q (.ref l) (upd H l (.tup ys)))\/(KH X.K H p ys/\Q (.ref p) H))):=by
 intro pins s σ H xs us Q I r h
 obtain⟨p,ys,rfl,h⟩:=h
 obtain⟨u,rfl,rx⟩:=Os r
 cases rx
 rcases h with⟨hq,q⟩ | ⟨hq,q⟩
 ·obtain⟨its,r',pl,hz⟩:=I.list hq
  have hlen:=r'.length
  refine call_tuple_list pl.isList (λh' kp=> ?_) (by simp only[bK] <;> omega)
  have I1:Inv X pins σ H { s with heap:=h' }:=I.kept (t':=s.toks) kp
  have I2:Inv X pins σ (upd H h'.objs.size (.tup ys)) { s with heap:=h'.push { cls:=.type "tuple",data:=.seq its.toArray } }:=
   I1.laid (t':=s.toks) (λb o e=>aG _ e) (aU _) (show kH X.prog X.w _ _ _ (.tup ys) from⟨hz,its,r',IsTup.new _ _⟩)
  exact⟨.ref h'.objs.size,_,I2,rfl,q _ (I1.hok.fresh (aU _))⟩
 ·obtain⟨its,r',pl,hz⟩:=I.tuple hq
  exact call_tuple_same pl ⟨.ref p,H,I,rfl,q⟩
def Z7 (K:PySem.W.Frag)(T:String)(x:V)(H:Hp):Prop:=match x with
 | .str _=>T="str"
 | .int _=>T="int"
 | .ref p=>(T="list"/\∃xs,dX K H p xs)\/(T="tuple"/\∃o,K.lookup p=some o/\o.cls=.type "tuple"/\o.dict=none)\/
   (T="dict"/\((∃kvs,H p=some (.dK kvs))\/∃kvs,H p=some (.dT kvs)))\/(T="set"/\∃S n,H p=some (.set S n))
 | _=>False
theorem C1 {pins:List (Addr×Obj)}{σ:St}{H:Hp}{s:aI}{T:String}{x:V}{v:aC}(I:Inv X pins σ H s)(r:RelV x v)(ty:Z7 X.K T x H):
  s.TypeIs v T/\∀a,v=.ref a->∃ob,s.heap.get? a=some ob/\ob.dict=none:=by
 cases x with
 | str z=>
  obtain⟨t,rfl⟩:=r
  cases (show T="str" from ty)
  exact⟨typeIs_str s z t,λ_ e=>nomatch e⟩
 | int i=>
  obtain⟨t,rfl⟩:=r
  cases (show T="int" from ty)
  exact⟨Y7 s i t,λ_ e=>nomatch e⟩
 | ref p=>
  cases r
  rcases ty with⟨rfl,xs,hq⟩ | ⟨rfl,o,hk,hc,hd⟩ | ⟨rfl,hk⟩ | ⟨rfl,S,n,hk⟩
  ·obtain⟨its,_,pl,_⟩:=I.list hq
   refine⟨pl.isList.typeIs,λa e=> ?_⟩
   cases e
   obtain⟨o,n,e,c,hd,_⟩:=pl
   exact⟨o,e,hd⟩
  ·refine⟨⟨o,I.kIn p o hk,hc⟩,λa e=> ?_⟩
   cases e
   exact⟨o,I.kIn _ o hk,hd⟩
  ·have z:∃o,s.heap.get? p=some o/\o.ExactDict:=by
    rcases hk with⟨kvs,hk⟩ | ⟨kvs,hk⟩
    ·obtain⟨_,_,_,_,o,_,_,e,ex,_⟩:=I.hok p _ hk
     exact⟨o,e,ex⟩
    ·obtain⟨_,_,_,_,o,_,_,e,ex,_⟩:=I.hok p _ hk
     exact⟨o,e,ex⟩
   obtain⟨o,e,ex⟩:=z
   refine⟨⟨o,e,ex.1⟩,λa e2=> ?_⟩
   cases e2
   exact⟨o,e,ex.2.1⟩
  ·obtain⟨o,_,_,_,e,ex,_⟩:=I.hok p _ hk
   refine⟨⟨o,e,ex.1⟩,λa e2=> ?_⟩
   cases e2
   exact⟨o,e,ex.2.1⟩
 | _=>exact fS ty
def Z9 (K:PySem.W.Frag)(T:String)(r:V->List V->Hp->VK->Prop)(to:TE)(t:TA):TE:=λσ H Q=>to σ H λx H1=>Z7 K T x H1/\t σ H1 λxs H2=>r x xs H2 Q
variable {o e:Expr}{es:List Expr}{to:TE}{t:TA}{name:Str}{apos cpos:Pos}{T id:String}{r:V->List V->Hp->VK->Prop}
theorem JU (pa:PlainAttrs T)(slot:Slot T name id)(hty:typeOf (.builtin id)=pure (.type "method_descriptor"))(hm:MtR X id r)(ho:PE X o to)(ha:PA X (e::es) t)
  (hbase:attributeBase o name X.env (eval o X.env)=eval o X.env:=by rfl)
  (hfew:((backTo cpos (starEach (e::es) X.env)).all (λx=> !x.1)&&(backToKw cpos (keywordEach [] X.env)).all (λx=>x.1.isSome)
   &&decide ((e::es).length+([]:List dt).length+(if([]:List dt).isEmpty then 0 else 1) < 30))=true:=by rfl)
  (hline:(apos.endLine==cpos.line)=true:=by rfl) (hs:starEach (e::es) X.env=(false,eval e X.env)::starEach es X.env:=by rfl) (hplain:(backTo cpos (starEach es X.env)).any (·.1)=false:=by rfl):
  PE X (.Call (.Attribute o name apos) (e::es) [] cpos) (Z9 X.K T r to t):=by
 intro pins s σ H Q I h
 refine wpAny_Call_method_late hbase hfew hline rfl (kC (ho pins s σ H _ I h) λv s1 ⟨x,H1,I1,r1,ty,q1⟩=> ?_)
 obtain⟨h1,h2⟩:=C1 I1 r1 ty
 refine⟨T,id,pa,slot,hty,h1,h2,?_⟩
 have hA:=ha cpos pins s1 σ H1 _ I1 q1
 rw[hs] at hA ⊢
 refine Rg (by show(false || (backTo cpos (starEach es X.env)).any (·.1))=false;rw[hplain] <;> rfl) (Ve ?_)
 exact kC hA λus s2 ⟨vs,H2,I2,r2,q2⟩=>hm pins s2 σ H2 x vs v us Q I2 r1 r2 q2
end
end L2
namespace L2
open PySem PySem.Spec PyProof.Rows
def eu (X:Cx)(id:String)(r:V->List V->Hp->VK->Prop):Prop:=
 ∀(pins:List (Addr×Obj)) (s:aI) (σ:St) (H:Hp) (x:V) (xs:List V) (v:aC) (us:List aC) (Q:VK),Inv X pins σ H s->RelV x v->eG xs us->r x xs H Q->
  wpAny (model X.prog X.w) X.A (call (.builtin id) (v::us)) (EP X pins σ Q) X.xe s
theorem eG.one:∀{x:V} {us:List aC},eG [x] us->∃u,us=[u]/\RelV x u
 | _,_,.cons r .nil=>⟨_,rfl,r⟩
theorem eG.rep {xs:List V}{us:List aC}(h:eG xs us):∀k:Nat,eG (cU k xs).flatten (cU k us).flatten
 | 0=>.nil
 | k+1=>by
  rw[kT,kT,uV,uV]
  exact eG.append h (eG.rep h k)
theorem Ce (its:List aC):∀(k:Nat) (acc:List aC),
  v8 (λx1 x2=>x1++x2) acc.toArray (cU k its.toArray)=(acc++(cU k its).flatten).toArray
 | 0,acc=>by simp
 | k+1,acc=>by
  have e:acc.toArray++its.toArray=(acc++its).toArray:=by simp
  have e2:(acc++its)++(cU k its).flatten=acc++(cU (k+1) its).flatten:=by
   rw[kT,uV,pP]
  rw[<-e2, <-Ce its k (acc++its), <-e,kT,mD]
section
variable {X:Cx}{pins:List (Addr×Obj)}{σ:St}{H:Hp}{s:aI}{l b:Addr}{xs ys zs:List V}
theorem Inv.lset {its its':List aC}{n:Nat}{f:Array aC->Array aC}{t':Nat}(I:Inv X pins σ H s)(hH:H l=some (.lst xs))
  (e:s.heap.get? l=some { cls:=.type "list",data:=.seq its.toArray n }) (hf:f its.toArray=its'.toArray) (hv:eG ys its') (hz:ys.length<=sizeLine):
  Inv X pins σ (upd H l (.lst ys)) { s with heap:=s.heap.update l (eJ f),toks:=t' }:=by
 have q:=PySem.IsL.update e f
 rw[hf] at q
 refine I.write (x:=l) (e:=l) (by rw[hH];exact trivial) (.inl rfl) (λb' u hb hu=>(gL s.heap (eJ f) (fE hb)).trans hu) ⟨_,q⟩ ?_
 exact⟨hz,its',_,hv,q⟩
theorem Inv.lnew {its:List aC}{t':Nat}(I:Inv X pins σ H s)(hv:eG ys its)(hz:ys.length<=sizeLine):
  Inv X pins σ (upd H s.heap.objs.size (.lst ys)) { s with heap:=s.heap.push { cls:=.type "list",data:=.seq its.toArray },toks:=t' }:=
 I.laid (λ_ _ q=>aG _ q) (aU _) ⟨hz,its,0,hv,bF _ rfl⟩
theorem Inv.fresh (I:Inv X pins σ H s):H s.heap.objs.size=none:=I.hok.fresh (aU _)
theorem Inv.lstM (I:Inv X pins σ H s)(hH:H l=some (.lst xs)):xs.length<=sizeLine/\∃(its:List aC) (n:Nat),eG xs its/\xs.length=its.length/\s.heap.get? l=some { cls:=.type "list",data:=.seq its.toArray n }:=by
 obtain⟨z,its,n,r,e⟩:=I.hok l _ hH
 exact⟨z,its,n,r,r.length,e⟩
theorem Iv {n:Nat}(h:n<=sizeLine):pQ n=false:=by
 unfold pQ
 exact decide_eq_false (by omega)
end
section
variable {X:Cx}
def Dz:V->List V->Hp->VK->Prop:=λx vs H Q=>∃l xs y,x=.ref l/\vs=[y]/\H l=some (.lst xs)/\xs.length < sizeLine/\Q .non (upd H l (.lst (xs++[y])))
theorem QJ:eu X "list.append" Dz:=by
 intro pins s σ H x vs v us Q I rx rv h
 obtain⟨l,xs,y,rfl,rfl,hH,hz,q⟩:=h
 cases rx
 obtain⟨u,rfl,ru⟩:=rv.one
 obtain⟨z,its,n,r,hl,e⟩:=I.lstM hH
 refine PB F.slot_list_append ⟨_,e,rfl⟩ F.entry_list_append (F.args_list_append_2 _ _) (PySem.list_append l its.toArray n u (by rw[bK];omega)) ⟨e,?_⟩
 refine⟨.non,_,I.lset (its':=its++[u]) hH e (by simp) (r.append (.cons ru .nil)) ?_,rfl,q⟩
 rw[bZ,MB]
 omega
def e9:V->List V->Hp->VK->Prop:=λx vs H Q=>∃l b xs zs,x=.ref l/\vs=[.ref b]/\H l=some (.lst xs)/\H b=some (.lst zs)/\xs.length+zs.length<=sizeLine/\Q .non (upd H l (.lst (xs++zs)))
theorem HW:eu X "list.extend" e9:=by
 intro pins s σ H x vs v us Q I rx rv h
 obtain⟨l,b,xs,zs,rfl,rfl,hH,hB,hz,q⟩:=h
 cases rx
 obtain⟨u,rfl,ru⟩:=rv.one
 cases ru
 obtain⟨z,its,n,r,hl,e⟩:=I.lstM hH
 obtain⟨z2,its2,n2,r2,hl2,e2⟩:=I.lstM hB
 have hsz:its.toArray.size+its2.toArray.size<=sizeLine:=by rw[bK,bK];omega
 have hlong:¬(!its.toArray.isEmpty&&pQ (its.toArray.size+its2.toArray.size))=true:=by
  rw[Iv hsz,Y0]
  exact bP
 refine PB F.slot_list_extend ⟨_,e,rfl⟩ F.entry_list_extend (F.args_list_extend_2 _ _)
  (AutoSeq1.list_extend_list_list_0 l its.toArray n b its2.toArray n2 hlong (by rw[bK];omega) (by omega)) ⟨e,e2,?_⟩
 refine⟨.non,_,I.lset (its':=its++its2) hH e (by simp) (r.append r2) ?_,rfl,q⟩
 rw[bZ]
 omega
def R6:R2:=λx y H Q=>∃l b xs zs,x=.ref l/\y=.ref b/\H l=some (.lst xs)/\H b=some (.lst zs)/\xs.length+zs.length<=sizeLine/\∀p,H p=none->Q (.ref p) (upd H p (.lst (xs++zs)))
theorem GE:PD X (binaryOp .Add) R6:=by
 intro pins s σ H x y v u Q I rx ry h
 obtain⟨l,b,xs,zs,rfl,rfl,hH,hB,hz,q⟩:=h
 cases rx
 cases ry
 obtain⟨z,its,n,r,hl,e⟩:=I.lstM hH
 obtain⟨z2,its2,n2,r2,hl2,e2⟩:=I.lstM hB
 refine PySem.P.add_list e e2 ?_ (by rw[bK,bK];omega)
 have ea:its.toArray++its2.toArray=(its++its2).toArray:=by simp
 rw[ea]
 exact⟨.ref _,_,I.lnew (t':=s.toks) (r.append r2) (by rw[bZ];omega),rfl,q _ I.fresh⟩
def af:R2:=λx y H Q=>∃l k xs,x=.ref l/\y=.int k/\H l=some (.lst xs)/\ -(2 ^ 63)<=k/\k < 2 ^ 63/\xs.length * k.toNat<=sizeLine/\
 ∀p,H p=none->Q (.ref p) (upd H p (.lst (cU k.toNat xs).flatten))
theorem Qe {α:Type}(xs:List α)(k:Nat):(cU k xs).flatten.length=k * xs.length:=by
 induction k with
 | zero=>simp
 | succ k ih=>rw[kT,uV,bZ,ih,Nat.succ_mul,Nat.add_comm]
theorem Wy:PD X (binaryOp .Mult) af:=by
 intro pins s σ H x y v u Q I rx ry h
 obtain⟨l,k,xs,rfl,rfl,hH,h1,h2,hz,q⟩:=h
 cases rx
 obtain⟨t,rfl⟩:=ry
 obtain⟨z,its,n,r,hl,e⟩:=I.lstM hH
 have hlen:its.toArray.size * k.toNat<=sizeLine:=by rw[bK, <-hl];exact hz
 have hcap:¬its.toArray.size * k.toNat > (2 ^ 63 - 1) / 8:=by
  have:(sizeLine:Nat)<=(2 ^ 63 - 1) / 8:=by decide
  omega
 have hfit:¬(!Builtin.List.listFitsIndex k)=true:=by
  rw[fitsIndex_both h1 h2]
  exact bP
 have hlong:¬pQ (its.toArray.size * k.toNat)=true:=by
  rw[Iv hlen]
  exact bP
 have hnew:v8 (λx1 x2=>x1++x2) #[] (cU (if its.toArray.isEmpty=true then 0 else k.toNat) its.toArray)=(cU k.toNat its).flatten.toArray:=by
  have f0:∀m:Nat,v8 (λx1 x2=>x1++x2) #[] (cU m its.toArray)=(cU m its).flatten.toArray:=λm=>by
   have:=Ce its m []
   rw[Fz] at this
   exact this
  rw[f0]
  cases its with
  | nil=>simp
  | cons a r'=>rw[if_neg (by simp)]
 refine wpAny_binaryOp_repeat_ref (T:="list") (U:="int") (by decide) ⟨_,e,rfl⟩ (λs'=>Y7 s' k t) noFill_list_mul F.fills_int_mul ed repeat_list F.slot_int_index.lookup
  (PB ed (Y7 s k t) F.entry_int_rmul (F.args_int_rmul_2 _ _) (int___rmul___int_list k t l its.toArray n)
   ⟨e,rfl,⟨_,e,rfl⟩,PB F.slot_list_mul ⟨_,e,rfl⟩ F.entry_list_mul (F.args_list_mul_2 _ _) (AutoListH.list___mul___list_int_3 l its.toArray n k t hfit hcap hlong) ⟨e,?_⟩⟩)
 rw[hnew]
 exact⟨.ref _,_,I.lnew (t':=s.toks) (r.rep k.toNat) (by rw[Qe,Nat.mul_comm];exact hz),rfl,q _ I.fresh⟩
end
end L2
namespace L2
open PySem PySem.Spec PyProof.Rows
theorem eG.ints:∀{ns:List Int} {us:List aC},eG (ns.map V.int) us->IntsAre us ns
 | [],us,h=>by
  rw[mL] at h
  cases h
  exact IntsAre.nil
 | n::ns,us,h=>by
  rw[aJ] at h
  cases h with
  | cons r t=>
   obtain⟨k,rfl⟩:=r
   exact IntsAre.cons n k (eG.ints t)
theorem sA:∀{us:List aC} {ns:List Int},IntsAre us ns->eG (ns.map V.int) us
 | _,_,.nil=>by rw[mL];exact Paired.nil
 | _,_,.cons n t h=>by rw[aJ];exact Paired.cons (show RelV (V.int n) (pB n t) from⟨t,rfl⟩) (sA h)
theorem eG.bls:∀{bs:List Bool} {us:List aC},eG (bs.map V.bl) us->us=bs.map vY
 | [],us,h=>by
  rw[mL] at h
  cases h
  rfl
 | b::bs,us,h=>by
  rw[aJ] at h
  cases h with
  | cons r t=>
   cases r
   rw[eG.bls t,aJ]
theorem eG.ref1 {a:Addr}{us:List aC}(r:eG [V.ref a] us):us=[dQ a]:=by
 cases r with
 | cons r t=>
  cases t
  cases r
  rfl
section
variable {prog:bS}{w:cY}{A:dZ}{E:aC->aI->Prop}{s:aI}{l:Addr}{its:List aC}{ns:List Int}{Q:aC->aI->Prop}
theorem a0 (hh:A.handled=none)(hl:s.heap.IsList l its.toArray)(hi:IntsAre its ns)
  (h:∀h' tk t',(∀b o,s.heap.get? b=some o->h'.get? b=some o)->Q (.int ns.sum t') { s with heap:=h',toks:=tk }):wpAny (model prog w) A (call (.builtin "sum") [.ref l]) Q E s:=by
 obtain⟨xs,e⟩:=hi.allInts.items
 have hn:numsOf (intItems xs).toList=ns:=by rw[<-e];exact hi.numsOf
 rw[nums_intItems] at hn
 rw[e] at hl
 refine PySem.sum_intListG hh hl λh' tk t' hk=> ?_
 have:=h h' tk t' hk
 rw[preSum_eq,gM (by simp),hn];exact this
end
section
variable {X:Cx}
def ae (K:PySem.W.Frag):List V->Hp->VK->Prop:=λvs H Q=>∃(a:Addr) (ns:List Int),vs=[V.ref a]/\dX K H a (ns.map V.int)/\Q (.int ns.sum) H
theorem K5 (hc:X.calm=true):ED X (.builtin "sum") (ae X.K):=by
 intro pins s σ H vs us Q I r h
 obtain⟨a,ns,rfl,hs,q⟩:=h
 obtain⟨its,rv,hl,_⟩:=I.list hs
 rw[eG.ref1 r]
 exact a0 (I.ok.hd hc) hl.isList rv.ints λh' tk t' hk=>⟨.int _,H,I.kept hk,⟨_,rfl⟩,q⟩
def Pe (K:PySem.W.Frag):List V->Hp->VK->Prop:=λvs H Q=>∃(a:Addr) (ns:List Int),vs=[V.ref a]/\dX K H a (ns.map V.int)/\ns.length < 64/\
 ∀(ns':List Int) (p:Addr),ns'.Perm ns->ns'.Pairwise (·<= ·)->H p=none->Q (.ref p) (upd H p (.lst (ns'.map V.int)))
theorem c9 {n:Nat}(h:n < 64):n<=sizeLine:=by rw[aX];omega
theorem Tt:ED X (.builtin "sorted") (Pe X.K):=by
 intro pins s σ H vs us Q I r h
 obtain⟨a,ns,rfl,hs,h64,q⟩:=h
 obtain⟨its,rv,hl,_⟩:=I.list hs
 rw[eG.ref1 r]
 have hi:=rv.ints
 refine PyProof.Rows.sorted_ints hl.isList hi (by rw[hi.length];exact h64) λout ns' h1 h2 h3=> ?_
 obtain⟨ep,he'⟩:=PyProof.Rows.sortedAll_at s.heap its out
 have hlen:(ns'.map V.int).length<=sizeLine:=by rw[aA,h2.length_eq];exact c9 h64
 exact⟨.ref _,upd H (s.heap.objs.size+1) (.lst (ns'.map V.int)),I.laid (t':=s.toks) (λ_ _=>PyProof.Rows.sortedAll_old) (xZ _) ⟨hlen,out.toList,ep,sA h1,he'⟩,rfl,q ns' _ h2 h3 (I.hok.fresh (xZ _))⟩
end
section
variable {X:Cx}
def Wj (K:PySem.W.Frag):V->List V->Hp->VK->Prop:=λx xs H Q=>∃(a:Addr) (ys:List V) (y:V) (j:Nat) (z:V),x=V.ref a/\xs=[y]/\dX K H a ys/\BE y=true/\ys.all BE=true/\ys[j]? =some z/\Zi z y=true/\
 (∀(m:Nat) (z':V),m < j->ys[m]? =some z'->Zi z' y=false)/\Q (.int (j:Nat)) H
theorem Qn {ys:List V}(f:ys.all BE=true){j:Nat}{z:V}(h:ys[j]? =some z):BE z=true:=cN.mp f z (aY h)
theorem Xb:MtR X "list.index" (Wj X.K):=by
 intro pins s σ H x xs v us Q I rx rxs h
 obtain⟨a,ys,y,j,z,rfl,rfl,hs,fy,fys,hz,hzj,hno,q⟩:=h
 cases rx
 cases rxs with
 | cons ry rt=>
  rename_i uy ut
  cases rt
  obtain⟨its,rv,⟨⟨cls,dd,data,sl⟩,n,ho,hc,hdn,hd⟩,hlen⟩:=I.list hs
  simp only at hc hd
  subst hc hd
  obtain⟨u,hu,ru⟩:=rv.get hz
  obtain⟨hjl,hje⟩:=bL.mp hu
  have hvl:=rv.length
  have hj:j < its.toArray.size:=by simpa using hjl
  have hsl:=aX
  refine PB PySem.F.slot_list_index ⟨_,ho,rfl⟩ PySem.F.entry_list_index (PySem.F.args_list_index_2 _ _)
   (SeqAt.list_indexAt a its.toArray n dd sl uy (Ks y) j hj (by omega) ?_ ?_) ⟨ho,λu' hu'=>BC ry fy rv fys u' (by simpa using hu'),?_⟩
  ·have e1:its.toArray[j]=u:=by simpa using hje
   rw[e1,Fh ru (Qn fys hz)]
   exact hzj
  ·intro m hm hmj
   have hml:m < its.length:=by simpa using hm
   have hmy:m < ys.length:=by omega
   have hy':ys[m]? =some ys[m]:=aE hmy
   obtain⟨u2,hu2,ru2⟩:=rv.get hy'
   obtain⟨_,hme⟩:=bL.mp hu2
   have e1:its.toArray[m]=u2:=by simpa using hme
   rw[e1,Fh ru2 (Qn fys hy')]
   exact hno m _ hmj hy'
  ·exact⟨.int (j:Nat),H,I.tok _,⟨_,rfl⟩,q⟩
end
theorem Xu {prog:bS}{w:cY}{A:dZ}{E:aC->aI->Prop}{s:aI}{l:Addr}{items:Array aC}{Q:aC->aI->Prop}(hl:s.heap.IsList l items)
  (h:∀s₂:aI,s₂={ s with heap:=s.heap.push { cls:=.type "list_iterator",data:=.fields #[.ref l,.int 0 0] } }->
   (s₂.heap.IsListIter s.heap.objs.size l 0/\s₂.heap.IsList l items)->l≠s.heap.objs.size->Q (.ref s.heap.objs.size) s₂):wpAny (model prog w) A (pyIter (.ref l)) Q E s:=by
 have hlt:l < s.heap.objs.size:=by obtain⟨_,e,_⟩:=hl;exact bD e
 exact xB hl (h _ rfl ⟨⟨_,bF _ rfl,rfl,rfl⟩,hl.push _⟩ (cJ hlt))
theorem Gx {prog:bS}{w:cY}{A:dZ}{bs:List Bool}{its:List aC}(e:its=bs.map vY):
  TruthOf prog w A (λi v=>its.toArray[i]? =some v) (λi=>bs.getD i false):=λi v s Q E hv hq=>by
 have hv':its[i]? =some v:=by simpa using hv
 rw[e,aP] at hv'
 obtain⟨b,hb,rfl⟩:=cK.mp hv'
 have hg:bs.getD i false=b:=by rw[aF,hb] <;> rfl
 have hq':Q (bs.getD i false) s:=hq
 rw[hg] at hq'
 exact gH hq'
theorem Cw:∀bs:List Bool,(bA bs.length).all (λi=>bs.getD i false)=bs.all id
 | []=>rfl
 | b::bs=>by
  rw[cM,Uo,ET,uW,ET, <-Cw bs]
  all_goals rfl
section
variable {X:Cx}
def ao (K:PySem.W.Frag):List V->Hp->VK->Prop:=λvs H Q=>∃(a:Addr) (bs:List Bool),vs=[V.ref a]/\dX K H a (bs.map V.bl)/\Q (.bl (bs.all id)) H
theorem XW (hc:X.calm=true):ED X (.builtin "all") (ao X.K):=by
 intro pins s σ H vs us Q I r h
 obtain⟨a,bs,rfl,hs,q⟩:=h
 obtain⟨its,rv,hl,_⟩:=I.list hs
 rw[eG.ref1 r]
 have hb:=rv.bls
 refine call_all_walk (Xu hl.isList λs₂ e2 st hne=> ?_)
 subst e2
 refine⟨_,_,_,_,_,_,_,rfl,Gh (A:=X.A.in1) (I.ok.hd hc) _ a hne its.toArray,st,Gx hb,λh' tk hk=> ?_⟩
 refine⟨.bl _,H,I.kept λb o eo=>hk b o (λhmem=> ?_) (aG _ eo),?_,q⟩
 ·rcases bN.mp hmem with e1 | hmem
  ·exact absurd (e1 ▸ bD eo) (fV _)
  ·cases hmem
 ·show vY _=vY _
  rw[<-Cw,hb,bK,aA]
end
mutual
inductive Dp (K:PySem.W.Frag)(H:Hp):V->PyData->Prop
 | non:Dp K H .non .none
 | bl (b:Bool):Dp K H (.bl b) (.bool b)
 | int (i:Int):Dp K H (.int i) (.int i)
 | str (x:Str):Dp K H (.str x) (.str x)
 | lst {a:Addr} {xs:List V} {ds:List PyData}:dX K H a xs->OY K H xs ds->Dp K H (.ref a) (.list ds)
 | tup {a:Addr} {xs:List V} {ds:List PyData}:KH K H a xs->OY K H xs ds->Dp K H (.ref a) (.tuple ds)
inductive OY (K:PySem.W.Frag)(H:Hp):List V->List PyData->Prop
 | nil:OY K H [] []
 | cons {v:V} {vs:List V} {d:PyData} {ds:List PyData}:Dp K H v d->OY K H vs ds->OY K H (v::vs) (d::ds)
end
section
variable {X:Cx}{pins:List (Addr×Obj)}{σ:St}{H:Hp}{s:aI}
mutual
theorem Dp.reads (I:Inv X pins σ H s):∀(d:PyData) (v:V) (u:aC),Dp X.K H v d->RelV v u->∃as,Reads s.heap u d as
 | .none,_,_,h,r=>by
  cases h
  cases r
  exact⟨_,Reads.none⟩
 | .bool b,_,_,h,r=>by
  cases h
  cases r
  exact⟨_,Reads.bool b⟩
 | .int i,_,_,h,r=>by
  cases h
  obtain⟨t,rfl⟩:=r
  exact⟨_,Reads.int i t⟩
 | .str x,_,_,h,r=>by
  cases h
  obtain⟨t,rfl⟩:=r
  exact⟨_,Reads.str x t⟩
 | .list ds,_,_,h,r=>by
  cases h with
  | lst hs ha=>
   cases r
   obtain⟨its,rv,⟨o,n,ho,hc,_,hd⟩,_⟩:=I.list hs
   obtain⟨as,hr⟩:=Dp.readsAll I ds _ its ha rv
   exact⟨_,Reads.list ho hc hd hr⟩
 | .tuple ds,_,_,h,r=>by
  cases h with
  | tup hs ha=>
   cases r
   obtain⟨its,rv,⟨o,ho,hc,n,hd⟩,_⟩:=I.tuple hs
   obtain⟨as,hr⟩:=Dp.readsAll I ds _ its ha rv
   exact⟨_,Reads.tuple ho hc hd hr⟩
 | .dict _,_,_,h,_=>by cases h
theorem Dp.readsAll (I:Inv X pins σ H s):∀(ds:List PyData) (vs:List V) (us:List aC),OY X.K H vs ds->eG vs us->∃as,ReadsAll s.heap us ds as
 | [],_,_,h,r=>by
  cases h
  cases r
  exact⟨_,ReadsAll.nil⟩
 | d::ds,_,_,h,r=>by
  cases h with
  | cons h1 h2=>
   cases r with
   | cons r1 r2=>
    obtain⟨as,q1⟩:=Dp.reads I d _ _ h1 r1
    obtain⟨bs,q2⟩:=Dp.readsAll I ds _ _ h2 r2
    exact⟨_,ReadsAll.cons q1 q2⟩
end
end
section
variable {X:Cx}
def aj (K:PySem.W.Frag):R2:=λx y H Q=>∃d e,Dp K H x d/\Dp K H y e/\uG d=true/\uG e=true/\Q (.bl (RH d e)) H
def e8 (K:PySem.W.Frag):R2:=λx y H Q=>∃d e,Dp K H x d/\Dp K H y e/\uG d=true/\uG e=true/\Q (.bl (!RH d e)) H
theorem E7 (hu:X.A.units+64 < cLine):PD X (compareOp .Eq) (aj X.K):=by
 intro pins s σ H x y v u Q I rx ry h
 obtain⟨d,e,hd,he,sd,se,q⟩:=h
 obtain⟨as,r1⟩:=Dp.reads I d x v hd rx
 obtain⟨bs,r2⟩:=Dp.reads I e y u he ry
 exact SeqAt.compareEq_shaped r1 r2 sd se hu ⟨.bl _,H,I,rfl,q⟩
theorem Ef (hu:X.A.units+64 < cLine):PD X (compareOp .NotEq) (e8 X.K):=by
 intro pins s σ H x y v u Q I rx ry h
 obtain⟨d,e,hd,he,sd,se,q⟩:=h
 obtain⟨as,r1⟩:=Dp.reads I d x v hd rx
 obtain⟨bs,r2⟩:=Dp.reads I e y u he ry
 exact SeqAt.compareNe_shaped r1 r2 sd se hu ⟨.bl _,H,I,rfl,q⟩
end
end L2
namespace L2
open PySem PySem.Spec PyProof.Rows
abbrev Zb (h:Heap)(c:Addr)(v:Option aC):Prop:=h.IsCell c v
def ab (scope sc:Scope):Scope:=
 { scope with names:=scope.names.map λ(n,k)=>if(k== .free&&sc.kind== .function&&sc.names.lookup n==some .cell) then(n,.cell) else(n,k) }
def fD (cells:List (Str×Addr)):List (Str×nG)->List (Str×Addr)->List (Str×Addr)
 | [],acc=>acc
 | (n,k)::r,acc=>if k== .free then fD cells r ((n,(cells.lookup n).getD 0)::acc) else fD cells r acc
theorem OH (env:Env)(f:Str×nG->List (Str×Addr)->Sem (ForInStep (List (Str×Addr))))
  (hf:∀n k c,f (n,k) c=if k== .free then(do let a <-cellOf env n;pure (.yield ((n,a)::c))) else pure (.yield c)):
  ∀(names:List (Str×nG)) (acc:List (Str×Addr)),(∀y∈names,y.2=.free->∃c,env.cells.lookup y.1=some c)->forIn names acc f=pure (fD env.cells names acc)
 | [],acc,_=>by rw[Kn];rfl
 | (n,k)::r,acc,h=>by
  rw[Gb,hf]
  have ih:=λacc=>OH env f hf r acc λy hy=>h y (aN _ hy)
  unfold fD
  by_cases hk:(k==vA)=true
  ·rw[if_pos hk,if_pos hk]
   obtain⟨c,hc⟩:=h (n,k) aT (by simpa using hk)
   have e:cellOf env n=pure c:=by unfold cellOf;rw[hc]
   rw[e]
   have e2:(env.cells.lookup n).getD 0=c:=by rw[hc];rfl
   rw[e2]
   exact ih _
  ·rw[if_neg hk,if_neg hk]
   exact ih _
theorem XY {scope:Scope}{env:Env}(h:∀y∈scope.names,y.2=.free->∃c,env.cells.lookup y.1=some c):closureFor scope env=pure (fD env.cells scope.names []):=by
 simp only[closureFor]
 rw[OH env _ (λn k c=>rfl) scope.names [] h]
 rfl
theorem CF {α:Type}:∀{l:List (Str×α)} {n:Str} {c:α},(n,c)∈l->∃c',l.lookup n=some c'
 | (k,v)::r,n,c,h=>by
  rw[nN]
  cases hb:n==k with
  | true=>exact⟨_,rfl⟩
  | false=>
   rcases bN.mp h with e | h
   ·cases e;simp at hb
   ·exact CF h
theorem uN {cells:List (Str×Addr)}:∀{names:List (Str×nG)} {acc:List (Str×Addr)} {n:Str} {c:Addr},(n,c)∈fD cells names acc->(n,c)∈acc\/((n,.free)∈names/\c=(cells.lookup n).getD 0)
 | [],_,_,_,h=>.inl h
 | (m,k)::r,acc,n,c,h=>by
  unfold fD at h
  split at h
  ·rename_i hk
   have hk:k=.free:=by simpa using hk
   rcases uN h with h | ⟨h1,h2⟩
   ·rcases bN.mp h with e | h
    ·cases e;exact .inr ⟨hk ▸ aT,rfl⟩
    ·exact .inl h
   ·exact .inr ⟨aN _ h1,h2⟩
  ·rcases uN h with h | ⟨h1,h2⟩
   ·exact .inl h
   ·exact .inr ⟨aN _ h1,h2⟩
theorem GW {cells:List (Str×Addr)}:∀{names:List (Str×nG)} {acc:List (Str×Addr)} {p:Str×Addr},p∈acc->p∈fD cells names acc
 | [],_,_,h=>h
 | (m,k)::r,acc,p,h=>by
  unfold fD
  split
  ·exact GW (aN _ h)
  ·exact GW h
theorem zB {cells:List (Str×Addr)}:∀{names:List (Str×nG)} {acc:List (Str×Addr)} {n:Str},(n,.free)∈names->(n,(cells.lookup n).getD 0)∈fD cells names acc
 | (m,k)::r,acc,n,h=>by
  unfold fD
  rcases bN.mp h with e | h
  ·cases e
   exact GW aT
  ·split
   ·exact zB h
   ·exact zB h
theorem BF:∀{names:List (Str×nG)} {h:Heap} {acc:List (Str×Addr)} {x:Str} {c:Addr},(x,c)∈cellsFrom h.objs.size names acc->
  (x,c)∈acc\/((x,.cell)∈names/\h.objs.size<=c/\Zb (pushCells h names) c none)
 | [],_,_,_,_,h=>.inl h
 | (n,k)::r,h,acc,x,c,hm=>by
  unfold cellsFrom at hm
  unfold pushCells
  split at hm
  ·rename_i hk
   rw[if_pos hk]
   have hk:k=.cell:=by simpa using hk
   rw[<-dE h { cls:=.type "cell",data:=.cell none }] at hm
   rcases BF hm with hm | ⟨h1,h2,h3⟩
   ·rcases bN.mp hm with e | hm
    ·cases e
     exact .inr ⟨hk ▸ aT,aU _,_,RG r _ _ _ (bF _ rfl),rfl⟩
    ·exact .inl hm
   ·rw[dE] at h2
    exact .inr ⟨aN _ h1,EM h2,h3⟩
  ·rename_i hk
   rw[if_neg hk]
   rcases BF hm with hm | ⟨h1,h2,h3⟩
   ·exact .inl hm
   ·exact .inr ⟨aN _ h1,h2,h3⟩
theorem IC:∀{names:List (Str×nG)} {n:Nat} {acc:List (Str×Addr)} {p:Str×Addr},p∈acc->p∈cellsFrom n names acc
 | [],_,_,_,h=>h
 | (m,k)::r,n,acc,p,h=>by
  unfold cellsFrom
  split
  ·exact IC (aN _ h)
  ·exact IC h
theorem QW:∀{names:List (Str×nG)} {n:Nat} {acc:List (Str×Addr)} {x:Str},(x,.cell)∈names->∃c,(x,c)∈cellsFrom n names acc
 | (m,k)::r,n,acc,x,h=>by
  unfold cellsFrom
  rcases bN.mp h with e | h
  ·cases e
   exact⟨n,IC aT⟩
  ·split
   ·exact QW h
   ·exact QW h
theorem QV:∀{names:List (Str×nG)} {h:Heap} {acc:List (Str×Addr)} {x y:Str} {c:Addr},(∀p∈acc,p.2 < h.objs.size)->(∀x y c,(x,c)∈acc->(y,c)∈acc->x=y)->
  (x,c)∈cellsFrom h.objs.size names acc->(y,c)∈cellsFrom h.objs.size names acc->x=y
 | [],_,_,_,_,_,_,hi,h1,h2=>hi _ _ _ h1 h2
 | (n,k)::r,h,acc,x,y,c,hl,hi,h1,h2=>by
  unfold cellsFrom at h1 h2
  split at h1
  ·rename_i hk
   rw[if_pos hk] at h2
   rw[<-dE h { cls:=.type "cell",data:=.cell none }] at h1 h2
   refine QV (h:=h.push _) (λp hp=> ?_) (λx y c a b=> ?_) h1 h2
   ·rw[dE]
    rcases bN.mp hp with rfl | hp
    ·exact Dd _
    ·exact vC (hl p hp)
   ·rcases bN.mp a with e | a <;> rcases bN.mp b with e' | b
    ·cases e;cases e';rfl
    ·cases e;exact absurd (hl _ b) (fV _)
    ·cases e';exact absurd (hl _ a) (fV _)
    ·exact hi _ _ _ a b
  ·rename_i hk
   rw[if_neg hk] at h2
   exact QV hl hi h1 h2
theorem Iz {M:dr}{A:dZ}{E:aC->aI->Prop}{s:aI}{scope:Scope}{globals:Addr}{closure:List (Str×Addr)}{qual:Str}{func:Option Addr}{code:aC}{around:Env}{builtins:Addr}{Q:Env->aI->Prop}
  (h:Q (newEnv scope s.heap.objs.size globals (cellsFrom (s.heap.objs.size+1) scope.names closure) qual func code (some around) builtins)
   { s with heap:=pushCells (s.heap.push { cls:=.type "dict",data:=.dict #[] }) scope.names }):
  wpAny M A (newFunctionEnv scope globals closure [] qual func code (some around) builtins) Q E s:=by
 simp only[newFunctionEnv,Yy,if_true]
 refine aD (wpAny_alloc ?_)
 refine aD (wpAny_layCells _ (λn k c=>rfl) scope.names closure _ _ ?_)
 rw[show({ s with heap:=s.heap.push { cls:=.type "dict",data:=.dict #[] } }:aI).heap.objs.size=s.heap.objs.size+1 from dE ..]
 rw[Kn]
 exact aD (bC (bC h))
theorem GP {sc:Scope}:∀{names:List (Str×nG)} {x:Str} {k:nG},
  (names.map λ(n,k)=>if(k==vA&&sc.kind== .function&&sc.names.lookup n==some .cell) then(n,Fu) else(n,k)).lookup x=some k->
  ∃k',names.lookup x=some k'/\(k=k'\/(k'=.free/\k=.cell))
 | [],_,_,h=>by simp at h
 | (n,k₀)::r,x,k,h=>by
  have ih:= @GP sc r x k
  have h':tO x ((if(k₀==vA&&sc.kind== .function&&sc.names.lookup n==some .cell)=true then(n,Fu) else(n,k₀))::(r.map _))=some k:=h
  cases hx:x==n with
  | true=>
   simp only[nN,hx]
   by_cases hc:(k₀==vA&&sc.kind== .function&&sc.names.lookup n==some .cell)=true
   ·rw[if_pos hc] at h'
    simp only[nN,hx] at h'
    cases h'
    simp only[bH,beq_iff_eq] at hc
    exact⟨k₀,rfl,.inr ⟨hc.1.1,rfl⟩⟩
   ·rw[if_neg hc] at h'
    simp only[nN,hx] at h'
    cases h'
    exact⟨_,rfl,.inl rfl⟩
  | false=>
   simp only[nN,hx]
   by_cases hc:(k₀==vA&&sc.kind== .function&&sc.names.lookup n==some .cell)=true
   ·rw[if_pos hc] at h'
    simp only[nN,hx] at h'
    exact ih h'
   ·rw[if_neg hc] at h'
    simp only[nN,hx] at h'
    exact ih h'
structure Kq (N:List Str)(sc scope:Scope)(own:List (Str×Nat)):Prop where
 kind:scope.kind=.function
 uniq:∀y∈scope.names,scope.names.lookup y.1=some y.2
 ix:∀p∈own,N[p.2]? =some p.1
 free:∀y∈scope.names,y.2=.free->sc.names.lookup y.1=some .cell\/sc.names.lookup y.1=some .free
 own:∀y∈scope.names,y.2=.local\/y.2=.cell->y.1∈own.map (·.1)\/y.1 ∉ N
def jS (σ:St):List Nat->St
 | []=>σ
 | v::vs=>(jS σ vs).set v none
theorem EY (σ:St):∀vs:List Nat,(jS σ vs).length=σ.length
 | []=>rfl
 | v::vs=>by unfold jS;rw[dO,EY σ vs]
theorem PK {σ:St}{i:Nat}{x:V}:∀{vs:List Nat},(jS σ vs)[i]? =some (some x)->σ[i]? =some (some x)/\i ∉ vs
 | [],h=>⟨h,by simp⟩
 | v::vs,h=>by
  unfold jS at h
  by_cases hi:v=i
  ·subst hi
   by_cases hv:v < (jS σ vs).length
   ·rw[uU hv] at h;cases h
   ·rw[eD (by simpa using hv)] at h;cases h
  ·rw[mM hi] at h
   obtain⟨h1,h2⟩:=PK h
   exact⟨h1,by simp only[bN,not_or];exact⟨λe=>hi e.symm,h2⟩⟩
abbrev Cx.blk (X:Cx)(s:aI)(H:Hp)(scope:Scope)(cenv:Env)(fp:List Addr):Cx:={ X with s_0:=s,H_0:=H,env:=cenv,outer:=X.stack,ex:=fp,fn:=λx=>scope.names.lookup x==some .cell,pn:=[],xe:=λ_ _=>False }
section
variable {X:Cx}{pins:List (Addr×Obj)}{σ:St}{H:Hp}{s:aI}
theorem Kc {scope:Scope}{own:List (Str×Nat)}{fp:List Addr}(I:Inv X pins σ H s)(ok:Kq X.N X.env.scope scope own)(hN:X.N.Nodup)(hfp:∀b∈fp,MC X pins H b/\b < s.heap.objs.size):
  Inv (X.blk s H scope (compEnvC scope (cellsFrom (s.heap.objs.size+1) scope.names (fD X.env.cells scope.names [])) s.heap.objs.size X.env) fp) [] (jS σ (own.map (·.2))) H { s with heap:=pushCells (s.heap.push { cls:=.type "dict",data:=.dict #[] }) scope.names }:=by
 have hfree:∀y∈scope.names,y.2=.free->∃c,X.env.cells.lookup y.1=some c:=λy hy e=>by
  rcases ok.free y hy e with k | k
  ·exact I.ok.has _ (.inl k)
  ·exact I.ok.has _ (.inr k)
 generalize hcenv:compEnvC scope (cellsFrom (s.heap.objs.size+1) scope.names (fD X.env.cells scope.names [])) s.heap.objs.size X.env=cenv
 have kp:∀b o,s.heap.get? b=some o->(pushCells (s.heap.push { cls:=.type "dict",data:=.dict #[] }) scope.names).get? b=some o:=λb o e=>RG _ _ _ _ (aG _ e)
 have hL:cenv.locals=s.heap.objs.size:=by rw[<-hcenv];rfl
 have hcl:cenv.cells=cellsFrom (s.heap.objs.size+1) scope.names (fD X.env.cells scope.names []):=by rw[<-hcenv];rfl
 have hsc:cenv.scope=ab scope X.env.scope:=by rw[<-hcenv];rfl
 rw[<-dE s.heap { cls:=.type "dict",data:=.dict #[] }] at hcl
 have cm:∀{y c},(y,c)∈fD X.env.cells scope.names []->X.env.cells.lookup y=some c/\c < s.heap.objs.size:=λ{y c} hm=>by
  rcases uN hm with hm | ⟨h1,rfl⟩
  ·cases hm
  ·obtain⟨c,hc⟩:=hfree _ h1 rfl
   rw[hc]
   obtain⟨w,z⟩:=I.cell _ _ hc
   exact⟨rfl,z.lt⟩
 have mem:∀{y c},cenv.cells.lookup y=some c->(X.env.cells.lookup y=some c/\c < s.heap.objs.size)\/(s.heap.objs.size+1<=c/\Zb (pushCells (s.heap.push { cls:=.type "dict",data:=.dict #[] }) scope.names) c none):=λ{y c} e=>by
  rw[hcl] at e
  rcases BF (PySem.mem_of_lookup e) with hm | ⟨_,h2,h3⟩
  ·exact .inl (cm hm)
  ·rw[dE] at h2;exact .inr ⟨h2,h3⟩
 have look:∀{y},scope.names.lookup y=some .free->∃c,cenv.cells.lookup y=some c/\X.env.cells.lookup y=some c:=λ{y} hl=>by
  have hy:(y,vA)∈scope.names:=PySem.mem_of_lookup hl
  obtain⟨c',e'⟩:=CF (IC (names:=scope.names) (n:=(s.heap.push { cls:=.type "dict",data:=.dict #[] }).objs.size) (zB (cells:=X.env.cells) (acc:=[]) hy))
  rw[<-hcl] at e'
  refine⟨c',e',?_⟩
  rw[hcl] at e'
  rcases BF (PySem.mem_of_lookup e') with hm | ⟨h1,_,_⟩
  ·exact(cm hm).1
  ·have:=ok.uniq _ h1
   rw[hl] at this;cases this
 have okB:(X.blk s H scope cenv fp).Ok:=by
  refine⟨I.ok.mod,by show cenv.scope.kind=_;rw[hsc];exact ok.kind,by show cenv.globals=_;rw[<-hcenv];exact I.ok.glob,by show cenv.builtins=_;rw[<-hcenv];exact I.ok.blt,by show s.heap.objs.size<=cenv.locals;rw[hL];exact aU _,
   λy z c e1 e2=> ?_,λy hy=> ?_,λy c z e=> ?_,I.ok.hd,I.ok.frames,.inl rfl,λb hb=>⟨?_,λy c e z=> ?_⟩,I.bs,cV I.ok.bsz I.sz,λb o e hb=> ?_,λb hb z=> ?_,I.stack,I.stkFree⟩
  ·have e1:cenv.cells.lookup y=some c:=e1
   have e2:cenv.cells.lookup z=some c:=e2
   rw[hcl] at e1 e2
   refine QV (λp hp=> ?_) (λy z c a b=>I.ok.inj y z c (cm a).1 (cm b).1) (PySem.mem_of_lookup e1) (PySem.mem_of_lookup e2)
   rw[dE]
   exact vC (cm (y:=p.1) (c:=p.2) hp).2
  ·show∃c,cenv.cells.lookup y=some c
   have key:∀k,cenv.kindOf y=some k->(k=.cell\/k=.free)->∃c,cenv.cells.lookup y=some c:=λk hk hk'=>by
    unfold Env.kindOf at hk
    rw[hsc] at hk
    obtain⟨k',e,r⟩:=GP hk
    have:k'=.cell\/k'=.free:=by
     rcases r with rfl | ⟨rfl,_⟩
     ·exact hk'
     ·exact .inr rfl
    rcases this with rfl | rfl
    ·obtain⟨c,hm⟩:=QW (n:=(s.heap.push { cls:=.type "dict",data:=.dict #[] }).objs.size) (acc:=fD X.env.cells scope.names []) (PySem.mem_of_lookup e)
     obtain⟨c',e'⟩:=CF hm
     exact⟨c',by rw[hcl];exact e'⟩
    ·obtain⟨c,h1,_⟩:=look e
     exact⟨c,h1⟩
   rcases hy with hy | hy
   ·exact key _ hy (.inl rfl)
   ·exact key _ hy (.inr rfl)
  ·have z:(scope.names.lookup y==some Fu)=true:=z
   have z:scope.names.lookup y=some .cell:=by simpa using z
   have e:cenv.cells.lookup y=some c:=e
   rw[hcl] at e
   rcases BF (PySem.mem_of_lookup e) with hm | ⟨_,h2,_⟩
   ·rcases uN hm with hm | ⟨h1,_⟩
    ·cases hm
    ·have q:=ok.uniq _ h1
     rw[z] at q;cases q
   ·rw[dE] at h2
    exact EM h2
  ·show b≠cenv.locals
   rw[hL];exact cJ (hfp b hb).2
  ·have e:cenv.cells.lookup y=some c:=e
   rcases mem e with⟨h1,_⟩ | ⟨h1,_⟩
   ·exact(hfp b hb).1.2.2.2.2.1 y c h1 z
   ·have h2:s.heap.objs.size+1<=b:=by rw[<-z];exact h1
    exact absurd (bW (hfp b hb).2 (EM h2)) (fV _)
  ·rcases(hfp b hb).1.2.2.2.1 with z | z
   ·exact I.ok.noex b o e z
   ·exact absurd (bW (bD e) (cV I.ok.bsz z)) (fV _)
  ·rcases bN.mp (I.stkSub b z) with z | z
   ·exact(hfp b hb).1.2.1 z
   ·exact(hfp b hb).1.2.2.1 z
 refine⟨okB,rfl,I.bare,Un.kept kp,⟨λ_=>none,?_,λi y av e1 e2 e3=> ?_⟩,λy c e=> ?_,?_,λy c e=> ?_,λp hp=> ?_,I.hok.kept kp,by rw[EY];exact I.len⟩
 ·show Heap.Ns _ cenv.locals _
  rw[hL]
  exact Heap.Ns.keeps (Heap.Ns.new ..) λb o e=>RG _ _ _ _ e
 ·obtain⟨e2,hne⟩:=PK e2
  have hfr:scope.names.lookup y=some .free/\(cenv.kindOf y=some .cell\/cenv.kindOf y=some .free):=by
   have key:∀k,cenv.scope.names.lookup y=some k->k=.local\/k=.cell\/k=.free->scope.names.lookup y=some .free/\(cenv.kindOf y=some .cell\/cenv.kindOf y=some .free):=λk hk hk'=>by
    have hk0:=hk
    rw[hsc] at hk
    obtain⟨k',e,r⟩:=GP hk
    have no:¬(k'=.local\/k'=.cell):=λhh=>by
     rcases ok.own _ (PySem.mem_of_lookup e) hh with e' | e'
     ·obtain⟨p,hp,hpy⟩:=bE.mp e'
      have e3:=ok.ix p hp
      have:p.1=y:=hpy
      rw[this] at e3
      exact hne (bE.mpr ⟨p,hp,WV hN e3 e1⟩)
     ·exact e' (aY e1)
    rcases r with rfl | ⟨rfl,rfl⟩
    ·rcases hk' with rfl | rfl | rfl
     ·exact absurd (.inl rfl) no
     ·exact absurd (.inr rfl) no
     ·exact⟨e,.inr hk0⟩
    ·exact⟨e,.inl hk0⟩
   have e3:V8 cenv.scope y:=e3
   rcases e3 with e3 | e3 | e3
   ·exact key _ e3 (.inl rfl)
   ·exact key _ e3 (.inr (.inl rfl))
   ·exact key _ e3 (.inr (.inr rfl))
  obtain⟨m,hn,hl⟩:=I.loc
  have hvis:V8 X.env.scope y:=(ok.free _ (PySem.mem_of_lookup hfr.1) rfl).elim (λk=>.inr (.inl k)) (λk=>.inr (.inr k))
  obtain⟨w,r,q⟩:=hl i y av e1 e2 hvis
  refine⟨w,r,.inr ⟨hfr.2,?_⟩⟩
  obtain⟨c,h1,h2⟩:=look hfr.1
  rcases q with⟨k,_⟩ | ⟨_,c',e',z⟩
  ·have k:X.env.scope.names.lookup y=some .local:=k
   rcases ok.free _ (PySem.mem_of_lookup hfr.1) rfl with k' | k' <;> rw[show X.env.scope.names.lookup y=_ from k'] at k <;> cases k
  ·rw[h2] at e';cases e'
   exact⟨c,h1,z.keeps kp⟩
 ·have e:cenv.cells.lookup y=some c:=e
  rcases mem e with⟨h1,_⟩ | ⟨_,z⟩
  ·obtain⟨w,z⟩:=I.cell y c h1
   exact⟨w,z.keeps kp⟩
  ·exact⟨_,z⟩
 ·show H cenv.locals=none
  rw[hL];exact I.hok.fresh (aU _)
 ·have e:cenv.cells.lookup y=some c:=e
  rcases mem e with⟨h1,_⟩ | ⟨h1,_⟩
  ·exact I.freeC y c h1
  ·exact I.hok.fresh (EM h1)
 ·exact absurd (show p∈([]:List (Addr×Obj))++[] from hp) (by simp)
theorem L9 {E:aC->aI->Prop}{D:Addr}{xs:List V}{y:V}{v:aC}{Q:aC->aI->Prop}(I:Inv X pins σ H s)(hD:H D=some (.lst xs))(hz:xs.length < sizeLine)(r:RelV y v)
  (h:∀s',Inv X pins σ (upd H D (.lst (xs++[y]))) s'->Q .none s'):wpAny (model X.prog X.w) X.A (call (.builtin "list.append") [.ref D,v]) Q E s:=by
 obtain⟨hz',its,n,ri,e⟩:=I.hok D _ hD
 have hl:=ri.length
 refine append_at (hsz:=by rw[bK];omega) e λh' sb ho'=> ?_
 refine h { s with heap:=h' } (I.write (t':=s.toks) (by rw[hD];trivial) (.inl rfl) (λb u hb q=>(sb.2 b hb).trans q) ⟨_,ho'⟩ ⟨by rw[bZ];exact hz,its++[v],n+1,ri.append (.cons r .nil),?_⟩)
 rw[ho']
 simp
def W5 (X:Cx)(ifs:List Expr)(t:TT):Prop:=
 ∀(pins:List (Addr×Obj)) (s:aI) (σ:St) (H:Hp) (Q:Bool->Hp->Prop),Inv X pins σ H s->t σ H Q->
  wpAny (model X.prog X.w) X.A (forIn ifs true λc r=>if r=true then do let ok <-isTrue c X.env (eval c X.env);pure (EU ok) else pure (EU r)) (TP X pins σ Q) X.xe s
def Zx:TT:=λ_ H Q=>Q true H
theorem oE:W5 X [] Zx:=λ_ _ _ H _ I h=>wpAny_tests_nil ⟨H,I,h⟩
theorem sI {c:Expr}{t:TT}(h:PT X c t):W5 X [c] t:=λpins s σ H Q I hw=>wpAny_tests_one (h pins s σ H Q I hw)
end
theorem Sa {α:Type}{t:Sem α}{Q Q':α->aI->Prop}{M:dr}{A:dZ}{E:aC->aI->Prop}{s:aI}(h:wpAny M A t Q (λ_ _=>False) s)(hQ:∀a s,Q a s->Q' a s):wpAny M A t Q' E s:=jD h hQ λ_ _ z=>fS z
theorem Fo {prog:bS}{w:cY}{A:dZ}{R:Vc->aI->Prop}{s:aI}{elt target iter:Expr}{ifs:List Expr}{scope:Scope}{pos:Pos}{it acc:aC}{env:Env}(I:Nat->aI->Prop)
  (turn:∀n s,I n s->wpAny (model prog w) A (pyNext it) (λr s₁=>match r with
   | none=>R (.ok .next) s₁
   | some v=>wpAny (model prog w) A (letOwnedTupleGo target it v) (λ_ s₁'=>wpAny (model prog w) A (assign target env v) (λ_ s₂=>
     wpAny (model prog w) A (forIn ifs true λc r=>if r=true then do let ok <-isTrue c env (eval c env);pure (EU ok) else pure (EU r)) (λok s₃=>
      if ok=true then wpAny (model prog w) A (eval elt env) (λx s₄=>
       wpAny (model prog w) A (call (.builtin "list.append") [acc,x]) (λ_ s₅=>∃m,m < n/\I m s₅) (notedBy (model prog w) A env λe s'=>R (.error e) s') s₄) (notedBy (model prog w) A env λe s'=>R (.error e) s') s₃
      else∃m,m < n/\I m s₃) (notedBy (model prog w) A env λe s'=>R (.error e) s') s₂) (notedBy (model prog w) A env λe s'=>R (.error e) s') s₁') (notedBy (model prog w) A env λe s'=>R (.error e) s') s₁) (notedBy (model prog w) A env λe s'=>R (.error e) s') s)
  (n:Nat) (h:I n s):
  codeAny (model prog w) A (.compLoop (.ListComp elt [⟨target,iter,ifs,0⟩] scope pos) 0 it acc env) R s:=by
 refine codeAny_loop rfl I (λn s hI=> ?_) n h
 show wpAny _ A ((compTurn (.ListComp elt [⟨target,iter,ifs,0⟩] scope pos) 0 it acc env).onRaise (λx=>do noteFrame x env;theTreesLotGoes x)) _ _ s
 refine wpAny_noted ?_
 rw[compTurn_list]
 refine aD (Zl (aD (jD (turn n s hI) (λr s₁ h₁=> ?_) λ_ _ h'=>h')))
 cases r with
 | none=>exact bC h₁
 | some v=>
  refine aD (jD h₁ (λ_ s₁' h₁'=> ?_) λ_ _ h'=>h')
  refine aD (jD h₁' (λ_ s₂ h₂=>aD (jD h₂ (λok s₃ h₃=> ?_) λ_ _ h'=>h')) λ_ _ h'=>h')
  cases ok with
  | false=>exact bC ⟨rfl,h₃⟩
  | true=>
   exact aD (aD (jD h₃ (λx s₄ h₄=>aD (jD h₄ (λ_ s₅ h₅=>bC (bC ⟨rfl,h₅⟩)) λ_ _ h'=>h')) λ_ _ h'=>h'))
section
variable {X:Cx}
def Uu (wi:TI)(g:TG)(tt:TT)(te:TE)(vs:List Nat):TE:=λσ H Q=>wi σ H λJ H1=>∀D,H1 D=none->∃W:Nat->Nat->Hp->Prop,(∃m,W 0 m (upd H1 D (.lst [])))/\∀i m H,W i m H->
 (J.stop i H/\Q (.ref D) H)\/(J.go i H/\∃Nx:Hp->Prop,(∀H',Nx H'->∃m',m' < m/\W (i+1) m' H')/\∀x H',J.yld i H x H'->g x (jS σ vs) H' λσ2 H2=>jS σ2 vs=jS σ vs/\tt σ2 H2 λb H3=>
  if b=true then te σ2 H3 λy H4=>∃acc,H4 D=some (.lst acc)/\acc.length < sizeLine/\Nx (upd H4 D (.lst (acc++[y]))) else Nx H3)
theorem Qh {pins:List (Addr×Obj)}{s:aI}{σ:St}{H:Hp}{Q:VK}{elt tg iter:Expr}{ifs:List Expr}{scope:Scope}{own:List (Str×Nat)}{pos pos':Pos}{wi:TI}{g:TG}{tt:TT}{te:TE}{use:Option (aC->Sem Unit)}{Qf:aC->aI->Prop}
  (hc:X.calm=true) (hN:X.N.Nodup) (I:Inv X pins σ H s) (hi:PI X tg iter wi) (ok:Kq X.N X.env.scope scope own)
  (hg:∀(s:aI) (H:Hp) (C:Addr) (cl:List (Str×Addr)) (fp:List Addr),PG (X.blk s H scope (compEnvC scope cl C X.env) fp) tg g) (ht:∀(s:aI) (H:Hp) (C:Addr) (cl:List (Str×Addr)) (fp:List Addr),W5 (X.blk s H scope (compEnvC scope cl C X.env) fp) ifs tt)
  (he:∀(s:aI) (H:Hp) (C:Addr) (cl:List (Str×Addr)) (fp:List Addr),PE (X.blk s H scope (compEnvC scope cl C X.env) fp) elt te) (hs:∀x,foldedSetIterable iter X.env x=pure x)
  (h:Uu wi g tt te (own.map (·.2)) σ H Q)
  (hRR:∀D C s' m H',Inv X pins σ H' s'->Q (.ref D) H'->s'.heap.Ns C m->MC X pins H' C->compPost (model X.prog X.w) X.A X.xe use Qf (.ref D) C (.ok .next) s'):
  wpAny (model X.prog X.w) X.A (comprehension (.ListComp elt [⟨tg,iter,ifs,0⟩] scope pos) scope X.env pos' (newList []) false (eval iter X.env) use) Qf X.xe s:=by
 have hfree:∀y∈scope.names,y.2=.free->∃c,X.env.cells.lookup y.1=some c:=λy hy e=>by
  rcases ok.free y hy e with k | k
  ·exact I.ok.has _ (.inl k)
  ·exact I.ok.has _ (.inr k)
 refine wpAny_comprehension_free (use:=use) rfl hs (XY hfree) ok.kind (λy hy e=>by rw[ok.uniq y hy,e])
  (kC (hi pins s σ H _ I h) λxv s1 hx=>kC hx λitv s2 h2=> ?_)
 obtain⟨it,fp,tn,J,H2,e,I2,T,st2,f2,q⟩:=h2
 subst e
 refine lC (Iz ?_) (by show 0<=sizeLine;decide)
 generalize hD:s2.heap.objs.size=D
 have hDn:H2 D=none:=I2.hok.fresh (zX hD)
 obtain⟨W,⟨m0,w0⟩,turn⟩:=q D hDn
 generalize hs3:({ s2 with heap:=s2.heap.push { cls:=.type "list",data:=.seq ([]:List aC).toArray } }:aI)=s3
 have I3:Inv X pins σ (upd H2 D (.lst [])) s3:=by
  rw[<-hs3]
  refine I2.laid (t':=s2.toks) (λb o e=>aG _ e) (zX hD) ⟨cA _,[],0,.nil,?_⟩
  rw[<-hD]
  exact bF _ rfl
 have h3:s3.heap=s2.heap.push { cls:=.type "list",data:=.seq ([]:List aC).toArray }:=by rw[<-hs3]
 have sz:∀b∈fp,b < s2.heap.objs.size:=λb hb=>by
  obtain⟨o,e,_⟩:=T.obj _ _ st2 b hb
  exact bD e
 have f3:∀b∈fp,MC X pins (upd H2 D (.lst [])) b/\b < s3.heap.objs.size:=λb hb=>by
  have hlt:=sz b hb
  refine⟨⟨?_,(f2 b hb).2⟩,by rw[h3,dE];exact vC hlt⟩
  rw[aM (by rw[<-hD];exact cJ hlt)]
  exact(f2 b hb).1
 have st3:tn 0 s3.heap:=T.keep _ _ _ st2 λb _ o e=>by rw[h3];exact aG _ e
 have I4:=Kc I3 ok hN f3
 have pg:=hg s3 (upd H2 D (.lst [])) s3.heap.objs.size (cellsFrom (s3.heap.objs.size+1) scope.names (fD X.env.cells scope.names [])) fp
 have pt:=ht s3 (upd H2 D (.lst [])) s3.heap.objs.size (cellsFrom (s3.heap.objs.size+1) scope.names (fD X.env.cells scope.names [])) fp
 have pe:=he s3 (upd H2 D (.lst [])) s3.heap.objs.size (cellsFrom (s3.heap.objs.size+1) scope.names (fD X.env.cells scope.names [])) fp
 show codeAny _ _ (.compStart (.ListComp elt [⟨tg,iter,ifs,0⟩] scope pos) 0 (.ref it) (.ref D) (compEnvC scope (cellsFrom (s3.heap.objs.size+1) scope.names (fD X.env.cells scope.names [])) s3.heap.objs.size X.env)) (compPost (model X.prog X.w) X.A X.xe use Qf (.ref D) s3.heap.objs.size) { s3 with heap:=pushCells (s3.heap.push { cls:=.type "dict",data:=.dict #[] }) scope.names }
 have nfp:∀b∈fp,(upd H2 D (.lst [])) b=none:=λb hb=>(f3 b hb).1.1
 generalize hce:compEnvC scope (cellsFrom (s3.heap.objs.size+1) scope.names (fD X.env.cells scope.names [])) s3.heap.objs.size X.env=ce at I4 pg pt pe ⊢
 have cL:ce.locals=s3.heap.objs.size:=by subst hce;rfl
 generalize hH3:upd H2 D (.lst [])=H3 at I3 I4 pg pt pe w0 nfp f3
 generalize hs4:({ s3 with heap:=pushCells (s3.heap.push { cls:=.type "dict",data:=.dict #[] }) scope.names }:aI)=s4 at I4 ⊢
 have st4:tn 0 s4.heap:=T.keep _ _ _ st3 λb _ o e=>by rw[<-hs4];exact RG _ _ _ _ (aG _ e)
 have stat:∀{σ':St} {H':Hp} {s':aI},Inv (X.blk s3 H3 scope ce fp) [] σ' H' s'->(∀b∈fp,H' b=none)->∀b∈fp,MC (X.blk s3 H3 scope ce fp) [] H' b:=λ{σ' H' s'} I' hn b hb=>
  ⟨hn b hb,(I'.ok.exf b hb).1,I'.ok.exfs b hb,.inl hb,λx c e=>(I'.ok.exf b hb).2 x c e,λp hp=>absurd (show p∈([]:List (Addr×Obj))++[] from hp) (by simp)⟩
 have loop:codeAny (model X.prog X.w) X.A (.compLoop (.ListComp elt [⟨tg,iter,ifs,0⟩] scope pos) 0 (.ref it) (.ref D) ce) (compPost (model X.prog X.w) X.A X.xe use Qf (.ref D) s3.heap.objs.size) s4:=by
  refine Fo (λn s'=>∃i H',Inv (X.blk s3 H3 scope ce fp) [] (jS σ (own.map (·.2))) H' s'/\tn i s'.heap/\(∀b∈fp,H' b=none)/\W i n H') ?_ m0 ⟨0,H3,I4,st4,nfp,w0⟩
  rintro n s5 ⟨i,H5,I5,st5,n5,w5⟩
  rcases turn i n H5 w5 with⟨stop,qq⟩ | ⟨go,Nx,hNx,step⟩
  ·have td:=T.done (X.blk s3 H3 scope ce fp) rfl rfl rfl hc i [] s5 _ H5 (λ_ _=>False) I5 (stat I5 n5) st5 stop
   refine Sa td λr s6 ⟨hr,I6⟩=> ?_
   subst hr
   have I7:Inv X pins σ H5 s6:=I3.call' (ch:=fp) I6.os I6.base I6.hok I6.bare λb hb=>⟨(f3 b hb).1.2.2.2.1,(f3 b hb).1.2.1,(f3 b hb).1.2.2.2.2.1,(f3 b hb).1.2.2.2.2.2⟩
   have nC:H5 s3.heap.objs.size=none:=by
    have z:H5 ce.locals=none:=I6.free
    rw[cL] at z
    exact z
   obtain⟨m,hn,_⟩:=I6.loc
   have hn:s6.heap.Ns ce.locals m:=hn
   rw[cL] at hn
   exact hRR D s3.heap.objs.size s6 m H5 I7 qq hn (I3.fpOk (aU _) nC)
  ·have ti:=T.item (X.blk s3 H3 scope ce fp) rfl rfl rfl hc i [] s5 _ H5 (λ_ _=>False) I5 (stat I5 n5) st5 go
   refine Sa ti λr s6 ⟨u,hr,h6⟩=> ?_
   subst hr
   refine Sa h6 λ_ s7 ⟨x,H7,I7,r7,y7,st7,n7⟩=> ?_
   have I7':=I7.pinned (stat I7 n7) (T.obj _ _ st7)
   refine Sa (pg _ s7 _ H7 x u _ I7' r7 (step x H7 y7)) λ_ s8 ⟨σ8,H8,I8,hw8,q8⟩=> ?_
   refine Sa (pt _ s8 σ8 H8 _ I8 q8) λb s9 ⟨H9,I9,q9⟩=> ?_
   have fin:∀{s':aI} {H':Hp},Inv (X.blk s3 H3 scope ce fp) ([]++WE fp s7.heap) σ8 H' s'->Nx H'->∃m,m < n/\∃i H',Inv (X.blk s3 H3 scope ce fp) [] (jS σ (own.map (·.2))) H' s'/\tn i s'.heap/\(∀b∈fp,H' b=none)/\W i m H':=λ{s' H'} I' nx=>by
    obtain⟨m',hm,w'⟩:=hNx H' nx
    have pin':∀b∈fp,∀o,s7.heap.get? b=some o->s'.heap.get? b=some o/\H' b=none:=λb hb o e=>
     let z:=I'.pin (b,o) (dF _ (dF _ (LM hb e)))
     ⟨z.1,z.2.1⟩
    have hl:(jS σ (own.map (·.2))).length=σ8.length:=by rw[<-hw8,EY]
    refine⟨m',hm,i+1,H',(I'.unpinned (pins:=[])).weak hl (λj v e=> ?_),T.keep _ _ _ st7 λb hb o e=>(pin' b hb o e).1,λb hb=> ?_,w'⟩
    ·rw[<-hw8] at e
     exact(PK e).1
    ·obtain⟨o,e,_⟩:=T.obj _ _ st7 b hb
     exact(pin' b hb o e).2
   cases b with
   | false=>
    simp only[eO,if_false] at q9 ⊢
    exact fin I9 q9
   | true=>
    simp only[if_true] at q9 ⊢
    refine Sa (pe _ s9 σ8 H9 _ I9 q9) λz s10 ⟨yv,H10,I10,r10,acc,hD10,hz10,nx⟩=> ?_
    exact L9 (X:=X.blk s3 H3 scope ce fp) I10 hD10 hz10 r10 λs11 I11=>fin I11 nx
 exact codeAny_compStart_list loop (T.self X.A 0 _ _ _ st4 loop)
theorem tI {elt tg iter:Expr}{ifs:List Expr}{scope:Scope}{own:List (Str×Nat)}{pos:Pos}{wi:TI}{g:TG}{tt:TT}{te:TE}(hc:X.calm=true)(hN:X.N.Nodup)(hi:PI X tg iter wi)(ok:Kq X.N X.env.scope scope own)
  (hg:∀(s:aI) (H:Hp) (C:Addr) (cl:List (Str×Addr)) (fp:List Addr),PG (X.blk s H scope (compEnvC scope cl C X.env) fp) tg g) (ht:∀(s:aI) (H:Hp) (C:Addr) (cl:List (Str×Addr)) (fp:List Addr),W5 (X.blk s H scope (compEnvC scope cl C X.env) fp) ifs tt)
  (he:∀(s:aI) (H:Hp) (C:Addr) (cl:List (Str×Addr)) (fp:List Addr),PE (X.blk s H scope (compEnvC scope cl C X.env) fp) elt te) (hs:∀x,foldedSetIterable iter X.env x=pure x:=by intro _;rfl):
  PE X (.ListComp elt [⟨tg,iter,ifs,0⟩] scope pos) (Uu wi g tt te (own.map (·.2))):=by
 intro pins s σ H Q I h
 rw[eval_ListComp]
 refine Qh hc hN I hi ok hg ht he hs h λD C s' m H' I' q hn f=>⟨m,hn,λh'' sb=> ?_⟩
 obtain⟨f0,f1,f2,f3,f4,f5⟩:=f
 exact⟨.ref D,H',I'.turned (t':=s'.toks) (λb o hb e=>(sb.2 b hb).trans e) f0 f1 f3 f4 f5,rfl,q⟩
theorem xK {i:Nat}{y:Str}{py:Pos}{elt tg iter:Expr}{ifs:List Expr}{scope:Scope}{own:List (Str×Nat)}{pos spos:Pos}{wi:TI}{g:TG}{tt:TT}{te:TE}(hc:X.calm=true)(hN:X.N.Nodup)(hy:X.N[i]? =some y)(hyl:X.env.scope.names.lookup y=some .local)
  (hsw:swapsWith (.ListComp elt [⟨tg,iter,ifs,0⟩] scope pos) (some (.Name y py)) spos.line X.env=pure true) (hi:PI X tg iter wi) (ok:Kq X.N X.env.scope scope own)
  (hg:∀(s:aI) (H:Hp) (C:Addr) (cl:List (Str×Addr)) (fp:List Addr),PG (X.blk s H scope (compEnvC scope cl C X.env) fp) tg g) (ht:∀(s:aI) (H:Hp) (C:Addr) (cl:List (Str×Addr)) (fp:List Addr),W5 (X.blk s H scope (compEnvC scope cl C X.env) fp) ifs tt)
  (he:∀(s:aI) (H:Hp) (C:Addr) (cl:List (Str×Addr)) (fp:List Addr),PE (X.blk s H scope (compEnvC scope cl C X.env) fp) elt te) (hs:∀x,foldedSetIterable iter X.env x=pure x:=by intro _;rfl):
  PS X (.Assign [.Name y py] (.ListComp elt [⟨tg,iter,ifs,0⟩] scope pos) spos) (Vw (Uu wi g tt te (own.map (·.2))) (GU i)):=by
 intro pins s σ H D I h
 rw[exec_Assign_Name_used _ _ _ _ hsw]
 refine aD (Zl (aD ?_))
 show wpAny _ X.A (do let _ <-comprehension (.ListComp elt [⟨tg,iter,ifs,0⟩] scope pos) scope X.env (firstIterPos [⟨tg,iter,ifs,0⟩] pos) (newList []) false (eval iter X.env) (some (assign (.Name y py) X.env))) _ _ s
 have h:Uu wi g tt te (own.map (·.2)) σ H (λx H1=>GU i x σ H1 D.nx):=h
 refine aD (kC (Qh (Qf:=λ_ s'=>SP X pins D .next s') hc hN I hi ok hg ht he hs h λL C s' m H' I' q hn f=> ?_) λ_ s' hq=>bC (bC hq))
 show wpAny _ _ (assign (.Name y py) X.env (.ref L)) _ _ _
 refine dh (As (v:=V.ref L) I' hN hy (.inl hyl) rfl (λs2 I2 ⟨a,sb,ha⟩=> ?_) (.inr hyl))
 obtain⟨f0,f1,f2,f3,f4,f5⟩:=f
 have haC:C≠a:=by
  rcases ha with z | z
  ·rw[z];exact f1
  ·exact λe=>f4 y a z e.symm
 refine⟨m,hn.sameBut sb haC,λh3 sb3=> ?_⟩
 exact⟨_,H',I2.turned (t':=s2.toks) (λb o hb e=>(sb3.2 b hb).trans e) f0 f1 f3 f4 f5,q⟩
theorem BU {elt:Expr}{gs:List Comprehension}{scope:Scope}{pos py:Pos}{y:Str}{l:Nat}{env:Env}(hk:env.scope.kind=.function)(hy:env.scope.names.lookup y=some .local)(hl:(py.line==pos.line)=true)
  (ha:(scope.names.any λ(n,k)=>n==y&&(k== .local || k== .cell))=false):swapsWith (.ListComp elt gs scope pos) (some (.Name y py)) l env=pure true:=by
 have ky:env.kindOf y=some .local:=hy
 have hb:env.blockKind=.function:=by unfold Env.blockKind;rw[hk];rfl
 unfold swapsWith
 simp only[hb,ky,ha,Expr.pos,hl]
 rfl
end
theorem Xk {lo:Int}{n:Nat}{g:TG}{tt:TT}{te:TE}{vs:List Nat}{σ:St}{H1:Hp}{D:Addr}{Qd:Hp->Prop}(Pv:Nat->Hp->Prop)(h0:Pv 0 (upd H1 D (.lst [])))
  (hs:∀i H,i < n->Pv i H->g (.int (lo+i)) (jS σ vs) H λσ2 H2=>jS σ2 vs=jS σ vs/\tt σ2 H2 λb H3=>
   if b=true then te σ2 H3 λy H4=>∃acc,H4 D=some (.lst acc)/\acc.length < sizeLine/\Pv (i+1) (upd H4 D (.lst (acc++[y]))) else Pv (i+1) H3) (hd:∀H,Pv n H->Qd H):
  ∃W:Nat->Nat->Hp->Prop,(∃m,W 0 m (upd H1 D (.lst [])))/\∀i m H,W i m H->
   ((Us lo n).stop i H/\Qd H)\/((Us lo n).go i H/\∃Nx:Hp->Prop,(∀H',Nx H'->∃m',m' < m/\W (i+1) m' H')/\∀x H',(Us lo n).yld i H x H'->g x (jS σ vs) H' λσ2 H2=>jS σ2 vs=jS σ vs/\tt σ2 H2 λb H3=>
    if b=true then te σ2 H3 λy H4=>∃acc,H4 D=some (.lst acc)/\acc.length < sizeLine/\Nx (upd H4 D (.lst (acc++[y]))) else Nx H3):=by
 refine⟨λi m H=>m=n - i/\i<=n/\Pv i H,⟨n,by simp,cA _,h0⟩,?_⟩
 rintro i m H ⟨rfl,hi,p⟩
 by_cases hlt:i < n
 ·refine .inr ⟨hlt,Pv (i+1),λH' p'=>⟨n - (i+1),by omega,rfl,hlt,p'⟩,λx H' y=> ?_⟩
  obtain⟨e,y⟩:=y
  subst e y
  exact hs i _ hlt p
 ·have e:i=n:=by omega
  subst e
  exact .inl ⟨aU _,hd H p⟩
theorem Qg {K:PySem.W.Frag}{a:Addr}{xs:List V}{g:TG}{tt:TT}{te:TE}{vs:List Nat}{σ:St}{H1:Hp}{D:Addr}{Qd:Hp->Prop}(Pv:Nat->Hp->Prop)(h0:Pv 0 (upd H1 D (.lst [])))(hl:∀i H,i<=xs.length->Pv i H->dX K H a xs)
  (hs:∀i x H,xs[i]? =some x->Pv i H->g x (jS σ vs) H λσ2 H2=>jS σ2 vs=jS σ vs/\tt σ2 H2 λb H3=>
   if b=true then te σ2 H3 λy H4=>∃acc,H4 D=some (.lst acc)/\acc.length < sizeLine/\Pv (i+1) (upd H4 D (.lst (acc++[y]))) else Pv (i+1) H3) (hd:∀H,Pv xs.length H->Qd H):
  ∃W:Nat->Nat->Hp->Prop,(∃m,W 0 m (upd H1 D (.lst [])))/\∀i m H,W i m H->
   ((B5 K a).stop i H/\Qd H)\/((B5 K a).go i H/\∃Nx:Hp->Prop,(∀H',Nx H'->∃m',m' < m/\W (i+1) m' H')/\∀x H',(B5 K a).yld i H x H'->g x (jS σ vs) H' λσ2 H2=>jS σ2 vs=jS σ vs/\tt σ2 H2 λb H3=>
    if b=true then te σ2 H3 λy H4=>∃acc,H4 D=some (.lst acc)/\acc.length < sizeLine/\Nx (upd H4 D (.lst (acc++[y]))) else Nx H3):=by
 refine⟨λi m H=>m=xs.length - i/\i<=xs.length/\Pv i H,⟨xs.length,by simp,cA _,h0⟩,?_⟩
 rintro i m H ⟨rfl,hi,p⟩
 have q:=hl i H hi p
 by_cases hlt:i < xs.length
 ·refine .inr ⟨⟨xs,xs[i],q,by simp[hlt]⟩,Pv (i+1),λH' p'=>⟨xs.length - (i+1),by omega,rfl,hlt,p'⟩,λx H' y=> ?_⟩
  obtain⟨e,y⟩:=y
  subst e
  exact hs i x _ (y xs q) p
 ·have e:i=xs.length:=by omega
  subst e
  exact .inl ⟨⟨xs,q,aU _⟩,hd H p⟩
def V4 (N:List Str)(sc scope:Scope)(own:List (Str×Nat)):Bool:=
 (match scope.kind with | .function=>true | _=>false)&&(scope.names.all λy=>decide (scope.names.lookup y.1=some y.2))&&(own.all λp=>decide (N[p.2]? =some p.1))&&
  (scope.names.all λy=>match y.2 with
   | .free=>(match sc.names.lookup y.1 with | some .cell=>true | some .free=>true | _=>false)
   | .local=>decide (y.1∈own.map (·.1)) || decide (y.1 ∉ N)
   | .cell=>decide (y.1∈own.map (·.1)) || decide (y.1 ∉ N)
   | _=>true)
theorem fN {N:List Str}{sc scope:Scope}{own:List (Str×Nat)}(h:V4 N sc scope own=true):Kq N sc scope own:=by
 unfold V4 at h
 simp only[bH,cN,decide_eq_true_eq] at h
 obtain⟨⟨⟨h1,h2⟩,h3⟩,h4⟩:=h
 refine⟨?_,h2,h3,λy hy e=> ?_,λy hy e=> ?_⟩
 ·split at h1
  ·assumption
  ·cases h1
 ·have q:=h4 y hy
  simp only[e] at q
  split at q <;> first | exact .inl (by assumption) | exact .inr (by assumption) | cases q
 ·have q:=h4 y hy
  rcases e with e | e <;> (simp only[e,dP,decide_eq_true_eq] at q;exact q)
end L2
namespace L2
open PySem PySem.Spec PyProof.Rows
section
variable {κ:Type} [DecidableEq κ]
def EE (kvs:List (κ×V))(k:κ):Option V:=(kvs.find? λkv=>decide (kv.1=k)).map (·.2)
def LB (kvs:List (κ×V))(k:κ)(v:V):List (κ×V):=
 if(kvs.any λkv=>decide (kv.1=k))=true then kvs.map (λkv=>if kv.1=k then(kv.1,v) else kv) else kvs++[(k,v)]
theorem MG {p:κ×V}{r:List (κ×V)}{k:κ}(e:p.1=k):EE (p::r) k=some p.2:=by simp[EE,iV,e]
theorem MH {p:κ×V}{r:List (κ×V)}{k:κ}(e:¬p.1=k):EE (p::r) k=EE r k:=by simp[EE,iV,e]
theorem MI (k:κ):∀kvs:List (κ×V),(kvs.any λkv=>decide (kv.1=k))=(EE kvs k).isSome
 | []=>rfl
 | p::r=>by
  rw[ES]
  by_cases e:p.1=k
  ·simp only[MG e,decide_eq_true e,YW,Yy]
  ·rw[MH e,decide_eq_false e,Om];exact MI k r
theorem SO (kvs:List (κ×V))(k:κ)(v:V):(LB kvs k v).length<=kvs.length+1:=by
 unfold LB
 split
 ·rw[aA];omega
 ·rw[bZ,cM,KM];omega
theorem Ia {kvs:List (κ×V)}{k:κ}(v:V)(h:EE kvs k=none):LB kvs k v=kvs++[(k,v)]:=by
 unfold LB
 rw[MI,h]
 exact if_neg (by decide)
theorem IU.isSome_eq {o:Option V}{u:Option aC}(r:IU o u):o.isSome=u.isSome:=by
 cases o with
 | none=>cases u with
  | none=>rfl
  | some _=>exact(show False from r).elim
 | some _=>cases u with
  | none=>exact(show False from r).elim
  | some _=>rfl
theorem KV.val {kvs:List (κ×V)}{vs:List (κ×aC)}(r:KV kvs vs)(k:κ):IU (EE kvs k) (valueAt vs k):=by
 unfold KV at r
 induction r with
 | nil=>exact IS
 | @cons p q ps qs h t ih=>
  obtain⟨h1,h2⟩:=h
  by_cases e:p.1=k
  ·have e':q.1=k:=h1.symm.trans e
   have b:valueAt (q::qs) k=some q.2:=by simp[valueAt,iV,e']
   rw[MG e,b];exact h2
  ·have e':¬q.1=k:=λz=>e (h1.trans z)
   have b:valueAt (q::qs) k=valueAt qs k:=by simp[valueAt,iV,e']
   rw[MH e,b];exact ih
theorem KV.any {kvs:List (κ×V)}{vs:List (κ×aC)}(r:KV kvs vs)(k:κ):(kvs.any λkv=>decide (kv.1=k))=vs.any λkv=>decide (kv.1=k):=by
 unfold KV at r
 induction r with
 | nil=>rfl
 | cons h t ih=>rw[ES,ES,ih,h.1]
theorem KV.repl {kvs:List (κ×V)}{vs:List (κ×aC)}(r:KV kvs vs)(k:κ){y:V}{u:aC}(ry:RelV y u):
  KV (kvs.map λkv=>if kv.1=k then(kv.1,y) else kv) (vs.map λkv=>if kv.1=k then(kv.1,u) else kv):=by
 unfold KV at r ⊢
 induction r with
 | nil=>exact .nil
 | @cons p q ps qs h t ih=>
  rw[aJ,aJ]
  refine .cons ?_ ih
  obtain⟨h1,h2⟩:=h
  by_cases e:p.1=k
  ·rw[if_pos e,if_pos (h1.symm.trans e)];exact⟨h1,ry⟩
  ·rw[if_neg e,if_neg (λz=>e (h1.trans z))];exact⟨h1,h2⟩
theorem KV.put {kvs:List (κ×V)}{vs:List (κ×aC)}(r:KV kvs vs)(k:κ){y:V}{u:aC}(ry:RelV y u):KV (LB kvs k y) (stored vs k u):=by
 unfold LB stored
 rw[r.any k]
 by_cases e:(vs.any λkv=>decide (kv.1=k))=true
 ·rw[if_pos e,if_pos e];exact r.repl k ry
 ·rw[if_neg e,if_neg e];exact Paired.snoc r ⟨rfl,ry⟩
theorem KV.length {kvs:List (κ×V)}{vs:List (κ×aC)}(r:KV kvs vs):kvs.length=vs.length:=Paired.length r
end
theorem Jg {P:bS}{w:cY}{k:mX}{u:aC}(r:RelV (kV k) u):(iD P w).is k u=true:=by
 cases k with
 | inl i=>obtain⟨t,e⟩:=(show∃t,u=pB i t from r);subst e;exact SG P w i t
 | inr x=>obtain⟨t,e⟩:=(show∃t,u=OT x t from r);subst e;exact Jb P w x t
theorem Ca {P:bS}{w:cY}:∀{ks:List mX} {us:List aC},eG (ks.map kV) us->ItemsAre (iD P w) ks us
 | [],_,r=>by rw[mL] at r;cases r;exact .nil
 | k::ks,_,r=>by
  rw[aJ] at r
  cases r with
  | cons h t=>exact .cons (Jg h) (Ca t)
abbrev KT (H:Hp):List (List mX×V)->List (List mX×Addr×aC)->Prop:=Paired λp q=>p.1=q.1/\H q.2.1=some (.tup (p.1.map kV))/\RelV p.2 q.2.2
theorem KT.val {H:Hp}{kvs:List (List mX×V)}{xs:List (List mX×Addr×aC)}(r:KT H kvs xs)(k:List mX):IU (EE kvs k) ((atKey xs k).map (·.2)):=by
 induction r with
 | nil=>exact IS
 | @cons p q ps qs h t ih=>
  obtain⟨h1,_,h2⟩:=h
  by_cases e:p.1=k
  ·have e':q.1=k:=h1.symm.trans e
   have b:atKey (q::qs) k=some q.2:=by simp[atKey,iV,e']
   rw[MG e,b];exact h2
  ·have e':¬q.1=k:=λz=>e (h1.trans z)
   have b:atKey (q::qs) k=atKey qs k:=by simp[atKey,iV,e']
   rw[MH e,b];exact ih
theorem KT.repl {H:Hp}{kvs:List (List mX×V)}{xs:List (List mX×Addr×aC)}(r:KT H kvs xs)(k:List mX){y:V}{u:aC}(ry:RelV y u):
  KT H (kvs.map λkv=>if kv.1=k then(kv.1,y) else kv) (xs.map (putAt k u)):=by
 induction r with
 | nil=>exact .nil
 | @cons p q ps qs h t ih=>
  rw[aJ,aJ]
  refine .cons ?_ ih
  obtain⟨h1,h2,h3⟩:=h
  unfold putAt
  by_cases e:p.1=k
  ·rw[if_pos e,if_pos (h1.symm.trans e)];exact⟨h1,h2,ry⟩
  ·rw[if_neg e,if_neg (λz=>e (h1.trans z))];exact⟨h1,h2,h3⟩
theorem KT.put {H:Hp}{kvs:List (List mX×V)}{xs:List (List mX×Addr×aC)}(r:KT H kvs xs)(k:List mX){b:Addr}{y:V}{u:aC}(hb:H b=some (.tup (k.map kV)))(ry:RelV y u):
  KT H (LB kvs k y) (storedH xs k b u):=by
 have e:(kvs.any λkv=>decide (kv.1=k))=(atKey xs k).isSome:=by
  rw[MI,(r.val k).isSome_eq,TZ]
 unfold LB storedH
 rw[e]
 by_cases q:(atKey xs k).isSome=true
 ·rw[if_pos q,if_pos q];exact r.repl k ry
 ·rw[if_neg q,if_neg q];exact Paired.snoc r ⟨rfl,hb,ry⟩
theorem KT.keeps {H H':Hp}{kvs:List (List mX×V)}{xs:List (List mX×Addr×aC)}(r:KT H kvs xs)(ht:∀b ys,H b=some (.tup ys)->H' b=some (.tup ys)):KT H' kvs xs:=
 Paired.mapP r λ_ _ z=>⟨z.1,ht _ _ z.2.1,z.2.2⟩
section
variable {P:bS}{w:cY}{H:Hp}{h:Heap}{a:Addr}
theorem y8 {u:HO}(ok:IG P w H h)(e:Rd H a u):kH P w H h a u:=e.ok ok
theorem Jt {kvs:List (mX×V)}(ok:IG P w H h)(e:Rd H a (.dK kvs)):kvs.length<=sizeLine/\(a==sysModules)=false/\∃vs,KV kvs vs/\h.DictOf (iD P w) a vs:=
 show kH P w H h a (.dK kvs) from y8 ok e
theorem V2 {kvs:List (mX×V)}(ok:IG P w H h)(e:H a=some (.dK kvs)):kvs.length<=sizeLine/\(a==sysModules)=false/\∃vs,KV kvs vs/\h.DictOf (iD P w) a vs:=Jt ok (.inl e)
theorem QO {ks:List mX}(ok:IG P w H h)(e:H a=some (.tup (ks.map kV))):(tupleKind (iD P w)).is h ks a:=by
 obtain⟨_,its,r,o,h1,h2,n,h3⟩:=(show kH P w H h a (.tup (ks.map kV)) from ok a _ e)
 exact⟨o,its.toArray,n,h1,h2,h3,by simpa using Ca r⟩
theorem Js {kvs:List (List mX×V)}(ok:IG P w H h)(e:Rd H a (.dT kvs)):kvs.length<=sizeLine/\(a==sysModules)=false/\
  ∃xs,KT H kvs xs/\h.DictOfH (tupleKind (iD P w)) a xs:=by
 obtain⟨z,y,xs,r,o,es,ep,h1,h2,h3,h4,h5⟩:=(show kH P w H h a (.dT kvs) from y8 ok e)
 refine⟨z,y,xs,r,o,es,ep,h1,h2,h3,h4,λx hx=> ?_,h5⟩
 have all:∀{l:List (List mX×V)} {m:List (List mX×Addr×aC)},KT H l m->∀x∈m,(tupleKind (iD P w)).is h x.1 x.2.1:=by
  intro l m q
  induction q with
  | nil=>intro x hx;exact nomatch hx
  | @cons p q ps qs hq t ih=>
   intro x hx
   rcases bN.mp hx with e | hx
   ·subst e
    exact QO ok (by rw[<-hq.1];exact hq.2.1)
   ·exact ih x hx
 exact all r x hx
theorem z9 {kvs:List (List mX×V)}(ok:IG P w H h)(e:H a=some (.dT kvs)):kvs.length<=sizeLine/\(a==sysModules)=false/\
  ∃xs,KT H kvs xs/\h.DictOfH (tupleKind (iD P w)) a xs:=Js ok (.inl e)
end
def EV (H:Hp)(a:Addr)(y:V)(r:Option V):Prop:=
 (∃kvs k,Rd H a (.dK kvs)/\y=kV k/\r=EE kvs k)\/∃kvs k b,Rd H a (.dT kvs)/\y=.ref b/\H b=some (.tup (k.map kV))/\r=EE kvs k
def Ko (H:Hp)(a:Addr)(y v:V)(H':Hp):Prop:=
 (∃kvs k,H a=some (.dK kvs)/\y=kV k/\kvs.length < sizeLine/\H'=upd H a (.dK (LB kvs k v)))\/
 ∃kvs k b,H a=some (.dT kvs)/\y=.ref b/\H b=some (.tup (k.map kV))/\kvs.length < sizeLine/\H'=upd H a (.dT (LB kvs k v))
theorem EV.k {H:Hp}{a:Addr}{kvs:List (mX×V)}{k:mX}(e:H a=some (.dK kvs)):EV H a (kV k) (EE kvs k):=.inl ⟨kvs,k,.inl e,rfl,rfl⟩
theorem EV.t {H:Hp}{a b:Addr}{kvs:List (List mX×V)}{k:List mX}(e:H a=some (.dT kvs))(eb:H b=some (.tup (k.map kV))):EV H a (.ref b) (EE kvs k):=.inr ⟨kvs,k,b,.inl e,rfl,eb,rfl⟩
theorem Ko.k {H:Hp}{a:Addr}{kvs:List (mX×V)}{k:mX}{v:V}(e:H a=some (.dK kvs))(hl:kvs.length < sizeLine):Ko H a (kV k) v (upd H a (.dK (LB kvs k v))):=.inl ⟨kvs,k,e,rfl,hl,rfl⟩
theorem Ko.t {H:Hp}{a b:Addr}{kvs:List (List mX×V)}{k:List mX}{v:V}(e:H a=some (.dT kvs))(eb:H b=some (.tup (k.map kV)))(hl:kvs.length < sizeLine):
  Ko H a (.ref b) v (upd H a (.dT (LB kvs k v))):=.inr ⟨kvs,k,b,e,rfl,eb,hl,rfl⟩
section
variable {X:Cx}{pins:List (Addr×Obj)}{σ:St}{H:Hp}{s:aI}{a:Addr}{y v:V}{u r:aC}{o:Option V}{A:dZ}{E:aC->aI->Prop}
theorem Inv.big (I:Inv X pins σ H s):sysModules < s.heap.objs.size:=by
 have h:mainGlobals < s.heap.objs.size:=(I.mod.glob.keeps I.bk).lt
 exact Nat.lt_trans (by decide) h
theorem Tr {Q:aC->aI->Prop}(hu:A.units+1 < cLine)(I:Inv X pins σ H s)(g:EV H a y (some v))(ry:RelV y u)(h:∀w' s',Inv X pins σ H s'->RelV v w'->Q w' s'):
  wpAny (model X.prog X.w) A (getItem (.ref a) u) Q E s:=by
 rcases g with⟨kvs,k,e,ey,l⟩ | ⟨kvs,k,b,e,ey,eb,l⟩
 ·subst ey
  obtain⟨z,hd,vs,rel,dd⟩:=Jt I.hok e
  obtain⟨w',hw,rw'⟩:=IU.some_of (v:=v) (o:=valueAt vs k) (by rw[l];exact rel.val k)
  exact wpAny_getItem_of (Jg ry) dd.mapOf hw (h w' _ (I.tok _) rw')
 ·subst ey
  cases (show u=dQ b from ry)
  obtain⟨z,hd,xs,rel,dd⟩:=Js I.hok e
  obtain⟨w',hw,rw'⟩:=IU.some_of (v:=v) (o:=(atKey xs k).map (·.2)) (by rw[l];exact rel.val k)
  obtain⟨p,hp,hp2⟩:=cK.mp hw
  refine wpAny_getItem_heap (uZ hu) (QO I.hok eb) dd hp ?_
  rw[hp2]
  exact h w' _ (I.tok _) rw'
theorem cu {Q:aC->aI->Prop}(hu:A.units+1 < cLine)(I:Inv X pins σ H s)(g:EV H a y o)(ry:RelV y u)(h:∀s',Inv X pins σ H s'->Q (.bool o.isSome) s'):
  wpAny (model X.prog X.w) A (compareOp .In u (.ref a)) Q E s:=by
 rcases g with⟨kvs,k,e,ey,l⟩ | ⟨kvs,k,b,e,ey,eb,l⟩
 ·subst ey
  obtain⟨z,hd,vs,rel,dd⟩:=Jt I.hok e
  refine wpAny_in_of (Jg ry) hd dd.mapOf ?_
  rw[<- (rel.val k).isSome_eq, <-l]
  exact h _ (I.tok _)
 ·subst ey
  cases (show u=dQ b from ry)
  obtain⟨z,hd,xs,rel,dd⟩:=Js I.hok e
  refine wpAny_in_heap (uZ hu) (QO I.hok eb) hd dd ?_
  have q:=(rel.val k).isSome_eq
  rw[TZ] at q
  rw[<-q, <-l]
  exact h _ (I.tok _)
theorem m5 {Q:aC->aI->Prop}(hu:A.units+1 < cLine)(I:Inv X pins σ H s)(g:EV H a y o)(ry:RelV y u)(h:∀s',Inv X pins σ H s'->Q (.bool (!o.isSome)) s'):
  wpAny (model X.prog X.w) A (compareOp .NotIn u (.ref a)) Q E s:=by
 rcases g with⟨kvs,k,e,ey,l⟩ | ⟨kvs,k,b,e,ey,eb,l⟩
 ·subst ey
  obtain⟨z,hd,vs,rel,dd⟩:=Jt I.hok e
  refine wpAny_notIn_of (Jg ry) hd dd.mapOf ?_
  rw[<- (rel.val k).isSome_eq, <-l]
  exact h _ (I.tok _)
 ·subst ey
  cases (show u=dQ b from ry)
  obtain⟨z,hd,xs,rel,dd⟩:=Js I.hok e
  refine wpAny_notIn_heap (uZ hu) (QO I.hok eb) hd dd ?_
  have q:=(rel.val k).isSome_eq
  rw[TZ] at q
  rw[<-q, <-l]
  exact h _ (I.tok _)
theorem Qu {h':Heap}{t':Nat}{ob:HO}(I:Inv X pins σ H s)(mu:B1 (H a))(hs:oK a s.heap h')(he:∃q,h'.get? a=some q)(new:kH X.prog X.w (upd H a ob) h' a ob):
  Inv X pins σ (upd H a ob) { s with heap:=h',toks:=t' }:=
 I.write (x:=a) (e:=a) mu (.inl rfl) (λb q hb z=>(hs.2 b hb).trans z) he new
theorem K3 {P:bS}{w:cY}{H':Hp}{h':Heap}{kvs:List (mX×V)}{vs:List (mX×aC)}(z:kvs.length<=sizeLine)(hd:(a==sysModules)=false)(rel:KV kvs vs)(dd:h'.DictOf (iD P w) a vs):
  kH P w H' h' a (.dK kvs):=⟨z,hd,vs,rel,dd⟩
theorem Tq {H':Hp}{Q:Unit->aI->Prop}(hu:A.units+1 < cLine)(I:Inv X pins σ H s)(g:Ko H a y v H')(ry:RelV y u)(rv:RelV v r)(h:∀s',Inv X pins σ H' s'->Q () s'):
  wpAny (model X.prog X.w) A (setItem (.ref a) u r) Q E s:=by
 rcases g with⟨kvs,k,e,ey,l,eH⟩ | ⟨kvs,k,b,e,ey,eb,l,eH⟩
 ·subst ey eH
  obtain⟨z,hd,vs,rel,dd⟩:=V2 I.hok e
  have hz:vs.length<=sizeLine:=by rw[<-rel.length];exact z
  have hl:(LB kvs k v).length<=sizeLine:=by have:=SO kvs k v;omega
  refine wpAny_setItem_pairs (hsz:=hz) (Jg ry) dd λh' dd' hs=>h _ ?_
  have he:∃q,h'.get? a=some q:=let ⟨q,_,_,hq,_⟩:=dd';⟨q,hq⟩
  exact Qu I (by rw[e];exact IS) hs he (K3 hl hd (rel.put k rv) dd')
 ·subst ey eH
  cases (show u=dQ b from ry)
  obtain⟨z,hd,xs,rel,dd⟩:=z9 I.hok e
  have hz:xs.length<=sizeLine:=by rw[<-Paired.length rel];exact z
  have hl:(LB kvs k v).length<=sizeLine:=by have:=SO kvs k v;omega
  refine wpAny_setItem_heap (hsz:=hz) (uZ hu) (QO I.hok eb) dd λh' dd' hs=>h _ ?_
  obtain⟨q,es,ep,hq,h2,h3,h4,_,h5⟩:=dd'
  refine Qu I (by rw[e];exact IS) hs ⟨q,hq⟩ ⟨hl,hd,_,(rel.put k eb rv).keeps λc ys ec=> ?_,q,es,ep,hq,h2,h3,h4,h5⟩
  rw[aM (eK ec e (λz=>nomatch z))]
  exact ec
end
def X1 (i:Expr):Prop:=∀ov iv,subscripted i false ov iv=operate [ov,iv] (getItem ov iv)
theorem a9 {prog:bS}{w:cY}{A:dZ}{E:aC->aI->Prop}{s:aI}{env:Env}{value slice:Expr}{pos:Pos}{T id:String}{Q:aC->aI->Prop}
  (hl:typeLookup (.type T) "__getitem__"=pure (some (.builtin id))) (hs:X1 slice)
  (h:wpAny (model prog w) A (eval value env) (λo s₁=>wpAny (model prog w) A (eval slice env) (λi s₂=>s₂.TypeIs o T/\wpAny (model prog w) A (getItem o i) Q E s₂) E s₁) E s):
  wpAny (model prog w) A (eval (.Subscript value slice pos) env) Q E s:=by
 refine Z0 (jD h (λo s₁ h₁=>jD h₁ (λi s₂ h₂=> ?_) λ_ _ x=>x) λ_ _ x=>x)
 obtain⟨hT,h₂⟩:=h₂
 unfold subscriptTail
 refine aD ?_
 rw[getitemInPython_of_ne hT.not_modules]
 refine aD (Rb hT hl ?_)
 have fin:wpAny (model prog w) A (subscripted slice false o i) (λr s₃=>wpAny (model prog w) A (letTemporaryGo value o r >>= λ_=>pure r) Q E s₃) E s₂:=by
  rw[hs o i]
  exact wpAny_operating (jD h₂ (λr s₃ h₃=>aD (wpAny_letTemporaryGo (bC h₃))) λ_ _ x=>x)
 first
  | exact bC (aD fin)
  | exact aD (bC (aD fin))
  | exact aD fin
theorem Ju {X:Cx}{pins:List (Addr×Obj)}{σ:St}{H:Hp}{s:aI}{a:Addr}{y:V}{o:Option V}(I:Inv X pins σ H s)(g:EV H a y o):s.TypeIs (.ref a) "dict":=by
 rcases g with⟨kvs,k,e,_,_⟩ | ⟨kvs,k,b,e,_,_,_⟩
 ·obtain⟨_,_,vs,_,dd⟩:=Jt I.hok e
  exact dd.typeIs
 ·obtain⟨_,_,xs,_,dd⟩:=Js I.hok e
  exact dd.typeIs
def Oy (td ty:TE):TE:=λσ H Q=>td σ H λx H1=>ty σ H1 λy H2=>∃a v,x=.ref a/\EV H2 a y (some v)/\Q v H2
def Zz (ty td:TE):TE:=λσ H Q=>ty σ H λy H1=>td σ H1 λx H2=>∃a o,x=.ref a/\EV H2 a y o/\Q (.bl o.isSome) H2
def Ox (ty td:TE):TE:=λσ H Q=>ty σ H λy H1=>td σ H1 λx H2=>∃a o,x=.ref a/\EV H2 a y o/\Q (.bl (!o.isSome)) H2
def Wc (td ty tv:TE):TS:=λD σ H=>tv σ H λv H1=>td σ H1 λx H2=>ty σ H2 λy H3=>∃a H4,x=.ref a/\Ko H3 a y v H4/\D.nx σ H4
section
variable {X:Cx}{o i e value:Expr}{pos pos' tpos:Pos}{td ty tv:TE}
theorem Pl (hu:X.A.units+1 < cLine)(ho:PE X o td)(hi:PE X i ty)(hs:X1 i):PE X (.Subscript o i pos) (Oy td ty):=by
 intro pins s σ H Q I h
 refine a9 PySem.F.slot_dict_getitem.lookup hs (kC (ho pins s σ H _ I h) λu s1 ⟨x,H1,I1,rx,q1⟩=>kC (hi pins s1 σ H1 _ I1 q1) λiv s2 ⟨y,H2,I2,ry,a,v,ex,g,q2⟩=> ?_)
 subst ex
 obtain rfl:u=dQ a:=rx
 exact⟨Ju I2 g,Tr hu I2 g ry λw' s3 I3 rw'=>⟨v,H2,I3,rw',q2⟩⟩
theorem Ml (hu:X.A.units+1 < cLine)(hi:PE X i ty)(ho:PE X o td):PC X .In i o (Zz ty td):=by
 intro pins s σ H Q I h
 refine kC (hi pins s σ H _ I h) λiv s1 ⟨y,H1,I1,ry,q1⟩=>kC (ho pins s1 σ H1 _ I1 q1) λu s2 ⟨x,H2,I2,rx,a,ov,ex,g,q2⟩=> ?_
 subst ex
 obtain rfl:u=dQ a:=rx
 exact cu hu I2 g ry λs3 I3=>⟨.bl ov.isSome,H2,I3,rfl,q2⟩
theorem Sj (hu:X.A.units+1 < cLine)(hi:PE X i ty)(ho:PE X o td):PC X .NotIn i o (Ox ty td):=by
 intro pins s σ H Q I h
 refine kC (hi pins s σ H _ I h) λiv s1 ⟨y,H1,I1,ry,q1⟩=>kC (ho pins s1 σ H1 _ I1 q1) λu s2 ⟨x,H2,I2,rx,a,ov,ex,g,q2⟩=> ?_
 subst ex
 obtain rfl:u=dQ a:=rx
 exact m5 hu I2 g ry λs3 I3=>⟨.bl (!ov.isSome),H2,I3,rfl,q2⟩
theorem Ph (hu:X.A.units+1 < cLine)(ho:PE X o td)(hi:PE X i ty)(hv:PE X value tv)(hs:swapsWith value (some (.Subscript o i pos')) pos.line X.env=pure false):
  PS X (.Assign [.Subscript o i pos'] value pos) (Wc td ty tv):=by
 intro pins s σ H D I h
 refine wpAny_Assign_Subscript (kC (hv pins s σ H _ I h) λr s1 ⟨v,H1,I1,rv,q1⟩=>kC (ho pins s1 σ H1 _ I1 q1) λu s2 ⟨x,H2,I2,rx,q2⟩=>kC (hi pins s2 σ H2 _ I2 q2) λiv s3 ⟨y,H3,I3,ry,a,H4,ex,g,q3⟩=> ?_) hs
 subst ex
 obtain rfl:u=dQ a:=rx
 exact Tq hu I3 g ry rv λs4 I4=>⟨σ,H4,I4,q3⟩
end
theorem Yj {P:bS}{w:cY}{H:Hp}(h:Heap)(hb:sysModules < h.objs.size):kH P w H (h.push { cls:=.type "dict",data:=.dict #[] }) h.objs.size (.dK []):=
 ⟨cA _,beq_eq_false_iff_ne.mpr (fE (cJ hb)),[],.nil,Heap.DictOf.new h⟩
theorem Yi {P:bS}{w:cY}{H:Hp}(h:Heap)(hb:sysModules < h.objs.size):kH P w H (h.push { cls:=.type "dict",data:=.dict #[] }) h.objs.size (.dT []):=
 ⟨cA _,beq_eq_false_iff_ne.mpr (fE (cJ hb)),[],.nil,_,#[],0,bF _ rfl,⟨rfl,rfl,rfl⟩,rfl,rfl,nM⟩
def Vt:TE:=λ_ H Q=>∀p,H p=none->Q (.ref p) (upd H p (.dK []))
def Ls:TE:=λ_ H Q=>∀p,H p=none->Q (.ref p) (upd H p (.dT []))
section
variable {X:Cx}{pos:Pos}
theorem Wu:PE X (.Dict [] [] pos) Vt:=λpins s σ H Q I h=>
 wpAny_Dict_empty ⟨.ref s.heap.objs.size,_,I.laid (a:=s.heap.objs.size) (o:=.dK []) (t':=s.toks) (λ_ _ q=>aG _ q) (aU _) (Yj s.heap I.big),rfl,h _ (I.hok.fresh (aU _))⟩
theorem Il:PE X (.Dict [] [] pos) Ls:=λpins s σ H Q I h=>
 wpAny_Dict_empty ⟨.ref s.heap.objs.size,_,I.laid (a:=s.heap.objs.size) (o:=.dT []) (t':=s.toks) (λ_ _ q=>aG _ q) (aU _) (Yi s.heap I.big),rfl,h _ (I.hok.fresh (aU _))⟩
end
structure M2 (X:Cx)(o:Expr)(m:Str)(apos:Pos)(e f:Expr)(cpos:Pos):Prop where
 base:attributeBase o m X.env (eval o X.env)=eval o X.env
 few:((backTo cpos (starEach [e,f] X.env)).all (λx=> !x.1)&&(backToKw cpos (keywordEach [] X.env)).all (λx=>x.1.isSome)
  &&decide (([e,f]:List Expr).length+([]:List dt).length+(if([]:List dt).isEmpty then 0 else 1) < 30))=true
 line:(apos.endLine==cpos.line)=true
 trees:backTo cpos (starEach [e,f] X.env)=[(false,eval e X.env),(false,eval f X.env)]
end L2
namespace L2
open PySem PySem.Spec PyProof.Rows
theorem YD:bootBuiltins "reversed"=some (.type "reversed"):=by decide+kernel
section
variable {X:Cx}{pins:List (Addr×Obj)}{σ:St}{H:Hp}{s:aI}{h':Heap}
theorem Inv.turnedL {t':Nat}{ch:List Addr}(I:Inv X pins σ H s)(k:∀b o,b ∉ ch->s.heap.get? b=some o->h'.get? b=some o)(hf:∀b∈ch,MC X pins H b):Inv X pins σ H { s with heap:=h',toks:=t' }:=by
 have nit:∀b u,H b=some u->b ∉ ch:=λb u e z=>by
  have q:=(hf b z).1
  rw[q] at e;cases e
 refine I.step (g':=s.gens) (d':=s.drawn) (ch:=ch) (λb hb=>⟨(hf b hb).2.2.2.1,(hf b hb).2.1,(hf b hb).2.2.2.2.1,(hf b hb).2.2.2.2.2⟩) (λb o _ _ hc e _=>k b o hc e) (λb o _ _ hc e _=>⟨o.slots,k b o hc e⟩)
  (λ_ _ _ _ n=>n) (λb o hc e=>⟨o,k b o hc e⟩) (λ_ _ e=>e) (λ_ _ _ e=>e) (λb ps e=>⟨#[],by rw[e];simp⟩) (λm hm=> ?_) (λb u e=> ?_) I.bare
 ·obtain⟨o,es,ep,ho,r⟩:=hm
  exact⟨o,es,ep,k _ o (λz=>(hf _ z).2.1 rfl) ho,r⟩
 ·refine(I.hok b u e).stay (λc v hc q=>k c v ?_ q) (λ_ q=>q) λ_ _ q=>q
  rcases hc with z | z
  ·rw[z];exact nit b u e
  ·exact nit c _ z
theorem Inv.turnedNew {t':Nat}{ch:List Addr}{T:Addr}{ob:HO}(I:Inv X pins σ H s)(k:∀b o,b ∉ ch->s.heap.get? b=some o->h'.get? b=some o)(hf:∀b∈ch,MC X pins H b)(hT:s.heap.objs.size<=T)
  (new:kH X.prog X.w (upd H T ob) h' T ob):Inv X pins σ (upd H T ob) { s with heap:=h',toks:=t' }:=by
 have hn:H T=none:=I.hok.fresh hT
 have nit:∀b u,H b=some u->b ∉ ch:=λb u e z=>by
  have q:=(hf b z).1
  rw[q] at e;cases e
 refine I.step (g':=s.gens) (d':=s.drawn) (ch:=ch) (λb hb=>⟨(hf b hb).2.2.2.1,(hf b hb).2.1,(hf b hb).2.2.2.2.1,(hf b hb).2.2.2.2.2⟩) (λb o _ _ hc e _=>k b o hc e) (λb o _ _ hc e _=>⟨o.slots,k b o hc e⟩)
  (λb o _ e n=> ?_) (λb o hc e=>⟨o,k b o hc e⟩) (λb xs e=> ?_) (λb o u e=> ?_) (λb ps e=>⟨#[],?_⟩) (λm hm=> ?_) (λb u e=> ?_) I.bare
 ·rw[aM (cJ (bW (bD e) hT))];exact n
 ·rw[aM (bJ e hn)];exact e
 ·rw[aM (bJ e hn)];exact e
 ·rw[aM (bJ e hn),e];simp
 ·obtain⟨o,es,ep,ho,r⟩:=hm
  exact⟨o,es,ep,k _ o (λz=>(hf _ z).2.1 rfl) ho,r⟩
 ·by_cases hb:b=T
  ·subst hb
   rw[aK] at e
   cases e
   exact new
  ·rw[aM hb] at e
   refine(I.hok b u e).stay (λc v hc q=>k c v ?_ q) (λc q=>by rw[aM (bJ q hn)];exact q) λc xs q=>by rw[aM (bJ q hn)];exact q
   rcases hc with z | z
   ·rw[z];exact nit b u e
   ·exact nit c _ z
theorem Inv.lock {d:Addr}{u:HO}(I:Inv X pins σ H s)(h:H d=some u)(mu:B1 (some u)):∃od,Inv X pins σ (upd H d (.frz od u)) s:=by
 have x:=I.hok d u h
 have ex:∃od,s.heap.get? d=some od:=by
  cases u with
  | lst xs=>obtain⟨_,_,_,_,e⟩:=x;exact⟨_,e⟩
  | dK kvs=>obtain⟨_,_,_,_,o,_,_,e,_⟩:=x;exact⟨o,e⟩
  | dT kvs=>obtain⟨_,_,_,_,o,_,_,e,_⟩:=x;exact⟨o,e⟩
  | set S n=>obtain⟨o,_,_,_,e,_⟩:=x;exact⟨o,e⟩
  | ins C dx fs=>obtain⟨_,_,_,e,_⟩:=x;exact⟨_,e⟩
  | ext φ=>obtain⟨_,⟨_,e⟩,_⟩:=x;exact⟨_,e⟩
  | _=>exact fS mu
 obtain⟨od,e⟩:=ex
 have new:kH X.prog X.w (upd H d (.frz od u)) s.heap d (.frz od u):=by
  refine⟨e,x.stay (λb v _ q=>q) (λb q=> ?_) λb xs q=> ?_⟩
  ·rw[aM (λz=>by rw[z,h] at q;cases q;exact mu)];exact q
  ·rw[aM (λz=>by rw[z,h] at q;cases q;exact mu)];exact q
 exact⟨od,I.write (x:=d) (e:=d) (t':=s.toks) (h':=s.heap) (by rw[h];exact mu) (.inl rfl) (λb v _ q=>q) ⟨od,e⟩ new⟩
theorem Inv.nofrz {d:Addr}{u:HO}(I:Inv X pins σ H s)(h:H d=some u)(mu:B1 (some u)):∀o' u',X.H_0 d≠some (.frz o' u'):=λo' u' e=>by
 have q:=I.base.frzs d o' u' e
 rw[h] at q
 cases q
 exact mu
theorem Inv.unlock {d:Addr}{od:Obj}{u:HO}(I:Inv X pins σ H s)(h:H d=some (.frz od u))(hn:∀o' u',X.H_0 d≠some (.frz o' u')):Inv X pins σ (upd H d u) s:=by
 have neH:∀b o,H b=some o->(∀o' u',o≠ .frz o' u')->b≠d:=λb o e hne z=>by
  rw[z,h] at e
  cases e
  exact hne _ _ rfl
 have neN:∀b,H b=none->b≠d:=λb e z=>by rw[z,h] at e;cases e
 refine⟨I.ok,I.os,I.bare,⟨I.base.keep,I.base.slot,λb o e n hx=> ?_,I.base.there,λb xs e=> ?_,λb o x e=> ?_,λb ps e=> ?_⟩,I.loc,I.cell,?_,λx c e=> ?_,λp hp=> ?_,λb o e=> ?_,I.len⟩
 ·rw[aM (neN b (I.base.free b o e n hx))];exact I.base.free b o e n hx
 ·have q:=I.base.tups b xs e
  rw[aM (neH b _ q (λ_ _ z=>nomatch z))];exact q
 ·have q:=I.base.frzs b o x e
  rw[aM (λz=>by rw[z] at e;exact hn _ _ e)];exact q
 ·obtain⟨m,q⟩:=I.base.tbls b ps e
  exact⟨m,by rw[aM (neH b _ q (λ_ _ z=>nomatch z))];exact q⟩
 ·rw[aM (neN _ I.free)];exact I.free
 ·rw[aM (neN c (I.freeC x c e))];exact I.freeC x c e
 ·obtain⟨e,n,r⟩:=I.pin p hp
  exact⟨e,by rw[aM (neN _ n)];exact n,r⟩
 ·by_cases hb:b=d
  ·rw[hb,aK] at e
   cases e
   rw[hb]
   obtain⟨_,x⟩:=I.hok d _ h
   exact x.stay (λc v _ q=>q) (λc q=>by rw[aM (neH c _ q (λ_ _ z=>nomatch z))];exact q) λc xs q=>by rw[aM (neH c _ q (λ_ _ z=>nomatch z))];exact q
  ·rw[aM hb] at e
   exact(I.hok b o e).stay (λc v _ q=>q) (λc q=>by rw[aM (neH c _ q (λ_ _ z=>nomatch z))];exact q) λc xs q=>by rw[aM (neH c _ q (λ_ _ z=>nomatch z))];exact q
end
def Q3 (t:TS):TS:=λD σ H=>∃d u,H d=some u/\B1 (some u)/\∀od,t ⟨λσ' H'=>H' d=some (.frz od u)/\D.nx σ' (upd H' d u),λv H'=>H' d=some (.frz od u)/\D.rt v (upd H' d u),λσ' H'=>H' d=some (.frz od u)/\D.bk σ' (upd H' d u),λσ' H'=>H' d=some (.frz od u)/\D.ct σ' (upd H' d u)⟩ σ (upd H d (.frz od u))
section
variable {X:Cx}
theorem Pg {st:Stmt}{t:TS}(h:PS X st t):PS X st (Q3 t):=by
 intro pins s σ H D I hw
 obtain⟨d,u,hd,mu,hw⟩:=hw
 obtain⟨od,I1⟩:=I.lock hd mu
 refine kC (h pins s σ _ _ I1 (hw od)) λf s1 q=> ?_
 cases f with
 | next=>obtain⟨σ',H',I2,e,q⟩:=q;exact⟨σ',_,I2.unlock e (I.nofrz hd mu),q⟩
 | brk=>obtain⟨σ',H',I2,e,q⟩:=q;exact⟨σ',_,I2.unlock e (I.nofrz hd mu),q⟩
 | cont=>obtain⟨σ',H',I2,e,q⟩:=q;exact⟨σ',_,I2.unlock e (I.nofrz hd mu),q⟩
 | ret v=>obtain⟨x,σ',H',I2,r,e,q⟩:=q;exact⟨x,σ',_,I2.unlock e (I.nofrz hd mu),r,q⟩
theorem Mh {tg:Expr}{pins:List (Addr×Obj)}{σ:St}{H:Hp}{s:aI}{R:It->Hp->Prop}{J:It}{tn:Nat->Heap->Prop}{tk:Nat}(I:Inv X pins σ H s)(o:Obj)
  (T:YJ X.prog X.w X.K tg J [s.heap.objs.size] s.heap.objs.size tn) (st:tn 0 (s.heap.push o)) (q:R J H):Z2 X pins σ tg R (.ref s.heap.objs.size) { s with heap:=s.heap.push o,toks:=tk }:=by
 refine⟨s.heap.objs.size,[s.heap.objs.size],tn,J,H,rfl,I.kept λb ob e=>aG _ e,T,st,λb hb=> ?_,q⟩
 have e:b=s.heap.objs.size:=by simpa using hb
 subst e
 exact I.fpOk (aU _) (I.hok.fresh (aU _))
end
section
variable {prog:bS}{w:cY}{A:dZ}{E:aC->aI->Prop}{s:aI}
theorem Bz {d:Addr}{o:Obj}{es:Array lX}{ep:Nat}{Q:aC->aI->Prop}(hd:(d==sysModules)=false)(ho:s.heap.get? d=some o)(hc:o.ExactDict)(hdat:o.data=.dict es ep)
  (hQ:Q (.ref s.heap.objs.size) { s with heap:=s.heap.push { cls:=.type "dict_keyiterator",data:=.fields #[.ref d,.int 0 0,.int es.size 0,.int ep 0] } }):
  wpAny (model prog w) A (pyIter (.ref d)) Q E s:=by
 have hT:s.TypeIs (.ref d) "dict":=⟨o,ho,hc.1⟩
 refine de hT Y9 (sY Y9 hT F.entry_dict_iter ?_ (F.args_dict_iter_1 _))
 unfold Builtin.«dict.__iter__»
 refine aD ?_
 unfold Builtin.Dict.dictSlotNone
 refine aD (wpAny_notOrdered_dict hT ?_)
 show wpAny _ _ (pure (dQ d)) _ _ s
 refine bC ?_
 show wpAny _ _ (Da d >>= _) _ _ s
 unfold Da
 rw[if_neg (by rw[hd];exact bP)]
 refine aD (bC ?_)
 refine aD (IW ho hdat ?_)
 refine aD (Rc ho hdat ?_)
 refine aD (lC (bC ⟨_,rfl,"dict_keyiterator",_,⟨_,bF _ rfl,rfl⟩,iB.lookup,?_⟩))
 simpa[rawInt] using hQ
theorem ZS {it d:Addr}{i n ep:Nat}{od:Obj}{es:Array lX}{en:lX}{Q:Option aC->aI->Prop}(hit:s.heap.IsKeyIter it d i n ep)(hod:s.heap.get? d=some od)(hdd:od.data=.dict es ep)
  (hsz:es.size=n) (hx:es[i]? =some en) (hQ:∀h',h'.IsKeyIter it d (i+1) n ep->oK it s.heap h'->Q (some en.key) { s with heap:=h' }):wpAny (model prog w) A (pyNext (.ref it)) Q E s:=by
 obtain⟨o,ho,hc,hd⟩:=id hit
 unfold pyNext
 refine aD (Ab (oN (name:=hU "__next__") hit.typeIs iB
  (sY iB hit.typeIs Kk ?_ (Gi _))))
 refine aD (bC ?_)
 refine aD ?_
 refine aD ?_
 first | refine aD (pK hit.typeIs (bC ?_)) | refine aD (uF hit.typeIs (bC ?_))
 refine aD (wpAny_fieldsOf ho hd ?_)
 have hown:IX "dict_keyiterator"=false:=by decide
 simp only[hown,eO,if_false]
 show wpAny _ _ (if(dQ d==oI)=true then _ else _) _ _ s
 rw[if_neg (show¬((dQ d==oI)=true) from bP)]
 refine aD (bC ?_)
 refine aD (IW hod hdd ?_)
 rw[if_neg (by rw[hsz];simp)]
 refine aD (bC ?_)
 refine aD (Rc hod hdd ?_)
 rw[if_neg (by simp)]
 refine bC ?_
 obtain⟨hlt',hen⟩:=zY.mp hx
 simp only[show¬((i:Int) < 0) from by omega,if_false,kN,Array.getElem?_eq_getElem hlt']
 refine aD ?_
 first | refine aD (pK hit.typeIs (bC ?_)) | refine aD (uF hit.typeIs (bC ?_))
 refine aD (N0 hit.typeIs ?_)
 show wpAny _ _ (setField (.ref it) 1 (rawInt ((i:Int)+1)) >>= _) _ _ s
 refine aD (UP ho hd (by simp) ?_)
 have hit':(s.heap.update it (Re (·.setIfInBounds 1 (rawInt ((i:Int)+1))))).IsKeyIter it d (i+1) n ep:=
  ⟨_,lP _ ho (Yw (BN hd _)),(N4 ..).trans hc,by rw[BN hd];simp[rawInt]⟩
 refine aD (lS ?_)
 refine aD (N0 (s:={ s with heap:=s.heap.update it (Re (·.setIfInBounds 1 (rawInt ((i:Int)+1)))) }) hit'.typeIs ?_)
 show wpAny _ _ (pure es[i].key) _ _ _
 rw[hen]
 exact bC (bC ⟨_,rfl,bC (hQ _ hit' (lW ..))⟩)
theorem NX {it d:Addr}{i n ep:Nat}{od:Obj}{es:Array lX}{Q:Option aC->aI->Prop}(hh:A.handled=none)(hit:s.heap.IsKeyIter it d i n ep)(hod:s.heap.get? d=some od)(hdd:od.data=.dict es ep)
  (hsz:es.size=n) (hge:n<=i) (hQ:∀h',Cz it s.heap h'->Q none { s with heap:=h' }):wpAny (model prog w) A (pyNext (.ref it)) Q E s:=by
 obtain⟨o,ho,hc,hd⟩:=id hit
 unfold pyNext
 refine aD (Ab (oN (name:=hU "__next__") hit.typeIs iB
  (sY iB hit.typeIs Kk ?_ (Gi _))))
 refine aD (bC ?_)
 refine aD ?_
 refine aD ?_
 first | refine aD (pK hit.typeIs (bC ?_)) | refine aD (uF hit.typeIs (bC ?_))
 refine aD (wpAny_fieldsOf ho hd ?_)
 have hown:IX "dict_keyiterator"=false:=by decide
 simp only[hown,eO,if_false]
 show wpAny _ _ (if(dQ d==oI)=true then _ else _) _ _ s
 rw[if_neg (show¬((dQ d==oI)=true) from bP)]
 refine aD (bC ?_)
 refine aD (IW hod hdd ?_)
 rw[if_neg (by rw[hsz];simp)]
 refine aD (bC ?_)
 refine aD (Rc hod hdd ?_)
 rw[if_neg (by simp)]
 refine bC ?_
 have hge':es.size<=i:=by rw[hsz];exact hge
 simp only[show¬((i:Int) < 0) from by omega,if_false,kN,Array.getElem?_eq_none hge']
 refine aD ?_
 first | refine aD (pK hit.typeIs (bC ?_)) | refine aD (uF hit.typeIs (bC ?_))
 show wpAny _ _ (setField (.ref it) 0 .none >>= _) _ _ s
 refine aD (UP ho hd (by simp) ?_)
 show wpAny _ _ (newExc (.type "StopIteration") [] >>= _) _ _ _
 refine aD ?_
 simp only[newExc,newTuple]
 refine aD (lC ?_ (by size_fits))
 refine aD (m:=firstArgMember _ _) (Nu (a:=oI) (by first | rfl | (simp only[firstArgMember];rfl)) ?_)
 refine lC ?_ (by size_fits)
 simp only[raiseNew]
 refine aD (wpAny_handled ?_)
 rw[show A.in1.handled=none from hh]
 refine aD (bC (wpAny_throw ?_))
 refine aD (Kt (T:="StopIteration") (b:=true) ⟨_,bF _ rfl,rfl⟩ isSubtype_stop ?_)
 exact bC (hQ _ (((lW ..).extBut.push _).push _))
end
theorem Xp {κ:Type}{kvs:List (κ×V)}{vs:List (κ×aC)}(h:KV kvs vs):∀{i:Nat} {k:κ} {v:V},kvs[i]? =some (k,v)->∃u,vs[i]? =some (k,u)/\RelV v u:=by
 unfold KV at h
 induction h with
 | nil=>intro i k v e;simp at e
 | @cons a b l₁ l₂ r t ih=>
  intro i k v e
  cases i with
  | zero=>
   simp only[HG,yD] at e
   subst e
   refine⟨b.2,?_,r.2⟩
   simp only[HG]
   exact congrArg some (W4 r.1.symm rfl)
  | succ j=>
   simp only[Rj] at e ⊢
   exact ih e
theorem Mm {α β:Type}{G:α->β->Prop}{l₁:List α}{l₂:List β}(h:Paired G l₁ l₂):∀{i:Nat} {a:α},l₁[i]? =some a->∃b,l₂[i]? =some b/\G a b:=by
 induction h with
 | nil=>intro i a e;simp at e
 | @cons a b l₁ l₂ r t ih=>
  intro i a' e
  cases i with
  | zero=>
   simp only[HG,yD] at e
   subst e
   exact⟨b,rfl,r⟩
  | succ j=>
   simp only[Rj] at e ⊢
   exact ih e
theorem Hw {k:mX}{u:aC}(h:OC k u=true):RelV (kV k) u:=by
 rcases kD h with⟨i,t,rfl,rfl⟩ | ⟨x,t,rfl,rfl⟩
 ·exact⟨t,rfl⟩
 ·exact⟨t,rfl⟩
section
variable {X:Cx}{pins:List (Addr×Obj)}{σ:St}{H:Hp}{s:aI}{d:Addr}{o:Obj}
theorem Inv.frzK {kvs:List (mX×V)}(I:Inv X pins σ H s)(h:H d=some (.frz o (.dK kvs))):
  (d==sysModules)=false/\s.heap.get? d=some o/\o.ExactDict/\∃(es:Array lX) (ep:Nat) (vs:List (mX×aC)),o.data=.dict es ep/\es.size=kvs.length/\KV kvs vs/\s.heap.DictAt (iD X.prog X.w) d vs ep:=by
 obtain⟨hd,z,hs,vs,kv,o',es,ep,ho,hx,hdt,r⟩:=I.hok d _ h
 rw[hd] at ho
 cases ho
 refine⟨hs,hd,hx,es,ep,vs,hdt,?_,kv,o,es,hd,hx,hdt,r⟩
 have l1:=r.2.1.length
 have l2:kvs.length=vs.length:=Paired.length kv
 rw[yF] at l1
 omega
theorem Inv.frzT {kvs:List (List mX×V)}(I:Inv X pins σ H s)(h:H d=some (.frz o (.dT kvs))):
  (d==sysModules)=false/\s.heap.get? d=some o/\o.ExactDict/\∃(es:Array lX) (ep:Nat),o.data=.dict es ep/\es.size=kvs.length/\
   ∀(i:Nat) (k:List mX) (v:V),kvs[i]? =some (k,v)->∃(en:lX) (q:Addr),es[i]? =some en/\en.key=.ref q/\H q=some (.tup (k.map kV)):=by
 obtain⟨hd,z,hs,xs,pr,o',es,ep,ho,hx,hdt,he,_⟩:=I.hok d _ h
 rw[hd] at ho
 cases ho
 refine⟨hs,hd,hx,es,ep,hdt,?_,λi k v e=> ?_⟩
 ·have l1:es.size=xs.length:=size_of_entries he
  have l2:kvs.length=xs.length:=Paired.length pr
  omega
 ·obtain⟨b,hb,e1,e2,_⟩:=Mm pr e
  have q:=entry_at he i
  rw[hb] at q
  exact⟨_,b.2.1,q,rfl,e2⟩
end
def Itk (d:Addr)(o:Obj)(kvs:List (mX×V)):It:=
 ⟨λi H=>H d=some (.frz o (.dK kvs))/\i < kvs.length,λi H x H'=>H'=H/\∃k v,kvs[i]? =some (k,v)/\x=kV k,λi H=>H d=some (.frz o (.dK kvs))/\kvs.length<=i⟩
def X8 (d:Addr)(o:Obj)(kvs:List (List mX×V)):It:=
 ⟨λi H=>H d=some (.frz o (.dT kvs))/\i < kvs.length,λi H x H'=>H'=H/\∃(k:List mX) (v:V) (q:Addr),kvs[i]? =some (k,v)/\x=.ref q/\H q=some (.tup (k.map kV)),λi H=>H d=some (.frz o (.dT kvs))/\kvs.length<=i⟩
def Iti (d:Addr)(o:Obj)(kvs:List (mX×V)):It:=
 ⟨λi H=>H d=some (.frz o (.dK kvs))/\i < kvs.length,λi H x H'=>∃T k v,kvs[i]? =some (k,v)/\x=.ref T/\H T=none/\H'=upd H T (.tup [kV k,v]),λi H=>H d=some (.frz o (.dK kvs))/\kvs.length<=i⟩
theorem HZ {o:Obj}{es es':Array lX}{ep ep':Nat}(h:o.data=.dict es ep)(h':o.data=.dict es' ep'):es'=es/\ep'=ep:=by
 rw[h] at h'
 cases h'
 exact⟨rfl,rfl⟩
section
variable {P:bS}{w:cY}{K:PySem.W.Frag}{tg:Expr}{d:Addr}{o:Obj}{es:Array lX}{ep:Nat}
theorem Rw {kvs:List (mX×V)}(it:Addr)(hod:o.data=.dict es ep):YJ P w K tg (Itk d o kvs) [it] it (λi h=>h.IsKeyIter it d i kvs.length ep) where
 mem:=by simp
 obj:=λi h st b hb=>by
  have e:b=it:=by simpa using hb
  subst e
  obtain⟨oi,e,c,dd⟩:=st
  exact⟨oi,e,λv z=>by rw[dd] at z;cases z⟩
 keep:=λi h h' st k=>st.at λoi e=>k it (by simp) oi e
 item:=by
  intro X hP hw hK hc i pins s σ H E I hf st hg
  subst hP hw hK
  obtain⟨hd,hi⟩:=hg
  obtain⟨f0,f1,f2,f3,f4,f5⟩:=hf it (by simp)
  obtain⟨hs,hgd,hx,es',ep',vs,hdt,hsz,kv,hm⟩:=I.frzK hd
  obtain⟨rfl,rfl⟩:=HZ hod hdt
  obtain⟨⟨k,v⟩,hkv⟩:∃p,kvs[i]? =some p:=⟨kvs[i],aE hi⟩
  obtain⟨u,hu,ru⟩:=Xp kv hkv
  have hl:kvs.length=vs.length:=Paired.length kv
  rw[hl] at st
  refine wpAny_pyNext_dict_item st hm hu λkey h' hkey st' sb=> ?_
  have I1:Inv X pins σ H { s with heap:=h' }:=I.turned (t':=s.toks) (λb ob hb e=>(sb.2 b hb).trans e) f0 f1 f3 f4 f5
  obtain⟨oi,e,c,dd⟩:=id st'
  refine⟨key,rfl,Jm (s:={ s with heap:=h' }) e c dd (by decide) ⟨kV k,H,I1,Hw (show OC k key=true from hkey),⟨rfl,k,v,hkv,rfl⟩,?_,λb hb=>(hf b hb).1⟩⟩
  show h'.IsKeyIter it d (i+1) kvs.length _
  rw[hl]
  exact st'
 done:=by
  intro X hP hw hK hc i pins s σ H E I hf st hg
  subst hP hw hK
  obtain⟨hd,hi⟩:=hg
  obtain⟨f0,f1,f2,f3,f4,f5⟩:=hf it (by simp)
  obtain⟨hs,hgd,hx,es',ep',vs,hdt,hsz,kv,hm⟩:=I.frzK hd
  obtain⟨rfl,rfl⟩:=HZ hod hdt
  exact NX (I.ok.hd hc) st hgd hdt hsz hi λh' eb=>⟨rfl,I.turned (t':=s.toks) (λb ob hb e=>eb b ob hb e) f0 f1 f3 f4 f5⟩
 self:=λA i s Q E st h=>wpAny_pyIter_keyiter st h
theorem Lm {kvs:List (List mX×V)}(it:Addr)(hod:o.data=.dict es ep):YJ P w K tg (X8 d o kvs) [it] it (λi h=>h.IsKeyIter it d i kvs.length ep) where
 mem:=by simp
 obj:=λi h st b hb=>by
  have e:b=it:=by simpa using hb
  subst e
  obtain⟨oi,e,c,dd⟩:=st
  exact⟨oi,e,λv z=>by rw[dd] at z;cases z⟩
 keep:=λi h h' st k=>st.at λoi e=>k it (by simp) oi e
 item:=by
  intro X hP hw hK hc i pins s σ H E I hf st hg
  subst hP hw hK
  obtain⟨hd,hi⟩:=hg
  obtain⟨f0,f1,f2,f3,f4,f5⟩:=hf it (by simp)
  obtain⟨hs,hgd,hx,es',ep',hdt,hsz,ent⟩:=I.frzT hd
  obtain⟨rfl,rfl⟩:=HZ hod hdt
  obtain⟨⟨k,v⟩,hkv⟩:∃p,kvs[i]? =some p:=⟨kvs[i],aE hi⟩
  obtain⟨en,q,hen,hkey,hq⟩:=ent i k v hkv
  refine ZS st hgd hdt hsz hen λh' st' sb=> ?_
  have I1:Inv X pins σ H { s with heap:=h' }:=I.turned (t':=s.toks) (λb ob hb e=>(sb.2 b hb).trans e) f0 f1 f3 f4 f5
  obtain⟨oi,e,c,dd⟩:=id st'
  exact⟨en.key,rfl,Jm (s:={ s with heap:=h' }) e c dd (by decide) ⟨.ref q,H,I1,hkey,⟨rfl,k,v,q,hkv,rfl,hq⟩,st',λb hb=>(hf b hb).1⟩⟩
 done:=by
  intro X hP hw hK hc i pins s σ H E I hf st hg
  subst hP hw hK
  obtain⟨hd,hi⟩:=hg
  obtain⟨f0,f1,f2,f3,f4,f5⟩:=hf it (by simp)
  obtain⟨hs,hgd,hx,es',ep',hdt,hsz,ent⟩:=I.frzT hd
  obtain⟨rfl,rfl⟩:=HZ hod hdt
  exact NX (I.ok.hd hc) st hgd hdt hsz hi λh' eb=>⟨rfl,I.turned (t':=s.toks) (λb ob hb e=>eb b ob hb e) f0 f1 f3 f4 f5⟩
 self:=λA i s Q E st h=>by
  refine de st.typeIs Kv (sY Kv st.typeIs F.entry_dict_keyiterator_iter ?_ (F.args_dict_keyiterator_iter_1 _))
  show wpAny _ _ (ret (.ref it)) _ _ s
  exact bC ⟨_,rfl,"dict_keyiterator",_,st.typeIs,iB.lookup,h⟩
theorem Ln {kvs:List (mX×V)}{elts:List Expr}{kk:Nat}{tpos:Pos}(it:Addr)(hod:o.data=.dict es ep):
  YJ P w K (.Tuple elts kk tpos) (Iti d o kvs) [it] it (λi h=>∃ok ov,IsItemIter h it d i kvs.length ep ok ov) where
 mem:=by simp
 obj:=λi h st b hb=>by
  have e:b=it:=by simpa using hb
  subst e
  obtain⟨ok,ov,e⟩:=st
  exact⟨_,e,λv z=>nomatch z⟩
 keep:=λi h h' st k=>let ⟨ok,ov,e⟩:=st;⟨ok,ov,k it (by simp) _ e⟩
 item:=by
  intro X hP hw hK hc i pins s σ H E I hf st hg
  subst hP hw hK
  obtain⟨hd,hi⟩:=hg
  obtain⟨hs,hgd,hx,es',ep',vs,hdt,hsz,kv,hm⟩:=I.frzK hd
  obtain⟨rfl,rfl⟩:=HZ hod hdt
  obtain⟨⟨k,v⟩,hkv⟩:∃p,kvs[i]? =some p:=⟨kvs[i],aE hi⟩
  obtain⟨u,hu,ru⟩:=Xp kv hkv
  have hl:kvs.length=vs.length:=Paired.length kv
  obtain⟨ok,ov,he⟩:=st
  rw[hl] at he
  have hlt:it < s.heap.objs.size:=bD he
  refine wpAny_pyNext_items_item he hm hu λkey h' hkey ho hT hz hk=> ?_
  refine⟨_,rfl,wpAny_letOwnedTupleGo_items (s:={ s with heap:=h' }) ho λh'' he' sb=> ?_⟩
  have hT2:h''.get? s.heap.objs.size=some { cls:=.type "tuple",data:=.seq #[key,u] }:=(sb.2 _ (oO hlt)).trans hT
  have new:kH X.prog X.w (upd H s.heap.objs.size (.tup [kV k,v])) h'' s.heap.objs.size (.tup [kV k,v]):=
   ⟨by show 2<=sizeLine;decide,[key,u],.cons (Hw (show OC k key=true from hkey)) (.cons ru .nil),⟨_,hT2,rfl,_,rfl⟩⟩
  have I1:Inv X pins σ (upd H s.heap.objs.size (.tup [kV k,v])) { s with heap:=h'' }:=
   I.turnedNew (t':=s.toks) (ch:=[it]) (λb ob hb e=>(sb.2 b (by simpa using hb)).trans (hk b ob (by simpa using hb) e)) hf (aU _) new
  refine⟨.ref s.heap.objs.size,_,I1,rfl,⟨_,k,v,hkv,rfl,I.hok.fresh (aU _),rfl⟩,⟨key,u,?_⟩,λb hb=> ?_⟩
  ·rw[hl];exact he'
  ·have e:b=it:=by simpa using hb
   rw[e,aM (cJ hlt)]
   exact(hf it (by simp)).1
 done:=by
  intro X hP hw hK hc i pins s σ H E I hf st hg
  subst hP hw hK
  obtain⟨hd,hi⟩:=hg
  obtain⟨f0,f1,f2,f3,f4,f5⟩:=hf it (by simp)
  obtain⟨hs,hgd,hx,es',ep',vs,hdt,hsz,kv,hm⟩:=I.frzK hd
  obtain⟨rfl,rfl⟩:=HZ hod hdt
  have hl:kvs.length=vs.length:=Paired.length kv
  obtain⟨ok,ov,he⟩:=st
  rw[hl] at he
  exact wpAny_pyNext_items_end (I.ok.hd hc) he hm (eD (by omega)) λh' eb=>⟨rfl,I.turned (t':=s.toks) (λb ob hb e=>eb b ob hb e) f0 f1 f3 f4 f5⟩
 self:=λA i s Q E st h=>let ⟨_,_,e⟩:=st;PySem.W.kcp_self e h
end
def z6 (td:TE):TI:=λσ H R=>td σ H λx H1=>∃d o,x=.ref d/\((∃kvs,H1 d=some (.frz o (.dK kvs))/\R (Itk d o kvs) H1)\/∃kvs,H1 d=some (.frz o (.dT kvs))/\R (X8 d o kvs) H1)
def Xy (td:TE):TI:=λσ H R=>td σ H λx H1=>∃d o kvs,x=.ref d/\H1 d=some (.frz o (.dK kvs))/\R (Iti d o kvs) H1
section
variable {X:Cx}{tg e:Expr}{td:TE}{apos cpos:Pos}
theorem i3 (he:PE X e td):PI X tg e (z6 td):=by
 intro pins s σ H R I h
 refine kC (he pins s σ H _ I h) λu s1 ⟨x,H1,I1,rx,d,o,ex,q⟩=> ?_
 subst ex
 obtain rfl:u=dQ d:=rx
 rcases q with⟨kvs,hd,q⟩ | ⟨kvs,hd,q⟩
 ·obtain⟨hs,hgd,hx,es,ep,vs,hdt,hsz,kv,hm⟩:=I1.frzK hd
  refine Bz hs hgd hx hdt (Mh (tk:=s1.toks) I1 _ (Rw _ hdt) ⟨_,bF _ rfl,rfl,?_⟩ q)
  rw[hsz] <;> rfl
 ·obtain⟨hs,hgd,hx,es,ep,hdt,hsz,ent⟩:=I1.frzT hd
  refine Bz hs hgd hx hdt (Mh (tk:=s1.toks) I1 _ (Lm _ hdt) ⟨_,bF _ rfl,rfl,?_⟩ q)
  rw[hsz] <;> rfl
theorem Wp {elts:List Expr}{kk:Nat}{tpos:Pos}(he:PE X e td)(hbase:attributeBase e "items" X.env (eval e X.env)=eval e X.env:=by rfl)(hline:(apos.endLine==cpos.line)=true:=by rfl):
  PI X (.Tuple elts kk tpos) (.Call (.Attribute e "items" apos) [] [] cpos) (Xy td):=by
 intro pins s σ H R I h
 refine di (T:="dict") (id:="dict.items") hbase rfl hline F.plainAttrs_dict W0 F.type_dict_items (kC (he pins s σ H _ I h) λu s1 ⟨x,H1,I1,rx,d,o,kvs,ex,hd,q⟩=> ?_)
 subst ex
 obtain rfl:u=dQ d:=rx
 obtain⟨hs,hgd,hx,es,ep,vs,hdt,hsz,kv,hm⟩:=I1.frzK hd
 have hl:kvs.length=vs.length:=Paired.length kv
 refine⟨hm.dictOf.typeIs,hm.dictOf.mapOf.noDict,?_⟩
 have I2:Inv X pins σ H1 { s1 with heap:=s1.heap.push { cls:=.type "dict_items",data:=.fields #[.ref d] } }:=I1.kept (t':=s1.toks) λb ob q=>aG _ q
 have fin:wpAny (model X.prog X.w) X.A (pyIter (.ref s1.heap.objs.size)) (Z2 X pins σ (.Tuple elts kk tpos) R) X.xe { s1 with heap:=s1.heap.push { cls:=.type "dict_items",data:=.fields #[.ref d] } }:=by
  refine wpAny_pyIter_items (d:=d) (knd:=iD X.prog X.w) ⟨_,bF _ rfl,rfl,rfl⟩ (hm.push _) (Mh (tk:=s1.toks) I2 _ (Ln _ hdt) ⟨.none,.none,?_⟩ q)
  rw[hl]
  exact bF _ rfl
 show wpAny _ _ (callWith cpos (.builtin "dict.items") [.ref d] [] []) _ X.xe s1
 exact method_meetsIn W0 F.entry_dict_items rfl (PySem.evalArgs_none ⟨rfl,hm.dictOf.typeIs,F.args_dict_items_1 _,_,meets_dict_items (iD X.prog X.w) d hs,⟨vs,hm.dictOf⟩,fin⟩)
end
def Ite (K:PySem.W.Frag)(a:Addr):It:=
 ⟨λi H=>∃(xs:List V) (x:V),dX K H a xs/\xs[i]? =some x,λi H v H'=>∃T x,v=.ref T/\H T=none/\H'=upd H T (.tup [.int (i:Nat),x])/\∀xs,dX K H a xs->xs[i]? =some x,λi H=>∃xs:List V,dX K H a xs/\xs.length<=i⟩
theorem Rx {P:bS}{w:cY}{K:PySem.W.Frag}{elts:List Expr}{kk:Nat}{tpos:Pos}(a e it:Addr):
  YJ P w K (.Tuple elts kk tpos) (Ite K a) [e,it] e (λi h=>(∃old,IsEnum h e it ((i:Nat):Int) old)/\h.IsListIter it a i/\e≠it) where
 mem:=by simp
 obj:=λi h st b hb=>by
  obtain⟨⟨old,he⟩,⟨o,ho,hc,hd⟩,_⟩:=st
  have e':b=e\/b=it:=by simpa using hb
  rcases e' with z | z
  ·rw[z];exact⟨_,he,λv q=>nomatch q⟩
  ·rw[z];exact⟨o,ho,λv q=>by rw[hd] at q;cases q⟩
 keep:=λi h h' st k=>let ⟨⟨old,he⟩,hi,hne⟩:=st;⟨⟨old,k e (by simp) _ he⟩,hi.at λo q=>k it (by simp) o q,hne⟩
 item:=by
  intro X hP hw hK hc i pins s σ H E I hf st hg
  subst hP hw hK
  obtain⟨⟨old,he⟩,hit,hne⟩:=st
  obtain⟨xs,x,hq,hx⟩:=hg
  obtain⟨its,rv,p,hz⟩:=I.list hq
  obtain⟨u,hu,ru⟩:=rv.get hx
  have hel:e < s.heap.objs.size:=bD he
  have hil:it < s.heap.objs.size:=by obtain⟨_,q,_⟩:=hit;exact bD q
  refine wpAny_pyNext_enum_item he hit p.isList (x:=u) (by simpa using hu) hne λh' ho hit' hT hsz hk=> ?_
  refine⟨_,rfl,wpAny_letOwnedTupleGo_enum (s:={ s with heap:=h',toks:=s.toks+1 }) ho λh'' he' sb=> ?_⟩
  have hT2:h''.get? s.heap.objs.size=some { cls:=.type "tuple",data:=.seq #[.int i s.toks,u] }:=(sb.2 _ (oO hel)).trans hT
  have new:kH X.prog X.w (upd H s.heap.objs.size (.tup [.int (i:Nat),x])) h'' s.heap.objs.size (.tup [.int (i:Nat),x]):=
   ⟨by show 2<=sizeLine;decide,[.int i s.toks,u],.cons ⟨_,rfl⟩ (.cons ru .nil),⟨_,hT2,rfl,_,rfl⟩⟩
  have I1:Inv X pins σ (upd H s.heap.objs.size (.tup [.int (i:Nat),x])) { s with heap:=h'',toks:=s.toks+1 }:=
   I.turnedNew (ch:=[e,it]) (λb ob hb q=>(sb.2 b (λz=>hb (by simp[z]))).trans (hk b ob (λz=>hb (by simp[z])) (λz=>hb (by simp[z])) q)) hf (aU _) new
  refine⟨.ref s.heap.objs.size,_,I1,rfl,⟨_,x,rfl,I.hok.fresh (aU _),rfl,λys hy=>by rw[I.list_inj hy hq];exact hx⟩,⟨⟨u,?_⟩,hit'.at λo q=>(sb.2 it (fE hne)).trans q,hne⟩,λb hb=> ?_⟩
  ·have e1:((i+1:Nat):Int)=(i:Int)+1:=by omega
   rw[e1];exact he'
  ·have hb':b < s.heap.objs.size:=by
    have e':b=e\/b=it:=by simpa using hb
    rcases e' with z | z
    ·rw[z];exact hel
    ·rw[z];exact hil
   rw[aM (cJ hb')]
   exact(hf b hb).1
 done:=by
  intro X hP hw hK hc i pins s σ H E I hf st hg
  subst hP hw hK
  obtain⟨⟨old,he⟩,hit,hne⟩:=st
  obtain⟨xs,hq,hx⟩:=hg
  obtain⟨its,rv,p,hz⟩:=I.list hq
  obtain⟨f0,f1,f2,f3,f4,f5⟩:=hf it (by simp)
  have hl:=rv.length
  exact wpAny_pyNext_enum_end (I.ok.hd hc) he hit p.isList (by simp;omega) λh' eb=>⟨rfl,I.turned (t':=s.toks) (λb o hb q=>eb b o hb q) f0 f1 f3 f4 f5⟩
 self:=λA i s Q E st h=>let ⟨⟨_,he⟩,_⟩:=st;df he h
def Xz (K:PySem.W.Frag)(ta:TA):TI:=λσ H R=>ta σ H λvs H1=>∃a xs,vs=[.ref a]/\dX K H1 a xs/\R (Ite K a) H1
theorem Ec {X:Cx}{e:Expr}{ta:TA}{p pos tpos:Pos}{elts:List Expr}{kk:Nat}(hg:Gl X "enumerate")(hm:X.mg "enumerate"=none)(ha:PA X [e] ta)(hs:starEach [e] X.env=[(false,eval e X.env)]:=by rfl):
  PI X (.Tuple elts kk tpos) (.Call (.Name "enumerate" p) [e] [] pos) (Xz X.K ta):=by
 intro pins s σ H R I h
 refine P5 (xO I hg hm boot_enumerate (eS (kC (ha pos pins s σ H _ I h) λus s1 ⟨vs,H1,I1,r1,q1⟩=> ?_) hs rfl))
 obtain⟨a,xs,ex,hq,q⟩:=q1
 subst ex
 cases r1 with
 | cons r rr=>
  cases rr
  cases r
  obtain⟨its,rv,p',hz⟩:=I1.list hq
  refine call_enumerate_list p'.isList λh' he hit hsz hk=>df he ?_
  have I2:Inv X pins σ H1 { s1 with heap:=h' }:=I1.kept (t':=s1.toks) hk
  refine⟨s1.heap.objs.size+1,[s1.heap.objs.size+1,s1.heap.objs.size],_,_,H1,rfl,I2,Rx a (s1.heap.objs.size+1) s1.heap.objs.size,⟨⟨.none,he⟩,hit,Dc _⟩,λb hb=> ?_,q⟩
  have e':b=s1.heap.objs.size+1\/b=s1.heap.objs.size:=by simpa using hb
  have hle:s1.heap.objs.size<=b:=by
   rcases e' with z | z
   ·rw[z];exact nW _ _
   ·rw[z];exact aU _
  exact I1.fpOk hle (I1.hok.fresh hle)
theorem Cr:bootBuiltins "zip"=some (.type "zip"):=by decide+kernel
def Itz (K:PySem.W.Frag)(a b:Addr):It:=
 ⟨λi H=>∃(xs ys:List V) (x y:V),dX K H a xs/\dX K H b ys/\xs[i]? =some x/\ys[i]? =some y,
  λi H v H'=>∃T x y,v=.ref T/\H T=none/\H'=upd H T (.tup [x,y])/\(∀xs,dX K H a xs->xs[i]? =some x)/\∀ys,dX K H b ys->ys[i]? =some y,
  λi H=>∃xs ys:List V,dX K H a xs/\dX K H b ys/\(xs.length<=i\/ys.length<=i)⟩
theorem Vo {P:bS}{w:cY}{K:PySem.W.Frag}{elts:List Expr}{kk:Nat}{tpos:Pos}{a b z TI TO i1 i2:Addr}(D:ZipApart z TI TO i1 i2 a b):
  YJ P w K (.Tuple elts kk tpos) (Itz K a b) [z,TI,TO,i1,i2] z (λi h=>Ny h z TI TO .none/\vB h TI (.ref i1) (.ref i2)/\(∃x y,vB h TO x y)/\h.IsListIter i1 a i/\h.IsListIter i2 b i) where
 mem:=by simp
 obj:=λi h st c hc=>by
  obtain⟨hz,hTI,⟨x,y,hTO⟩,⟨o1,e1,_,d1⟩,⟨o2,e2,_,d2⟩⟩:=st
  have e':c=z\/c=TI\/c=TO\/c=i1\/c=i2:=by simpa using hc
  rcases e' with q | q | q | q | q
  ·rw[q];exact⟨_,hz,λv q=>nomatch q⟩
  ·rw[q];exact⟨_,hTI,λv q=>nomatch q⟩
  ·rw[q];exact⟨_,hTO,λv q=>nomatch q⟩
  ·rw[q];exact⟨o1,e1,λv q=>by rw[d1] at q;cases q⟩
  ·rw[q];exact⟨o2,e2,λv q=>by rw[d2] at q;cases q⟩
 keep:=λi h h' st k=>by
  obtain⟨hz,hTI,⟨x,y,hTO⟩,h1,h2⟩:=st
  exact⟨k z (by simp) _ hz,k TI (by simp) _ hTI,⟨x,y,k TO (by simp) _ hTO⟩,h1.at λo q=>k i1 (by simp) o q,h2.at λo q=>k i2 (by simp) o q⟩
 item:=by
  intro X hP hw hK hc i pins s σ H E I hf st hg
  subst hP hw hK
  obtain⟨hz,hTI,⟨x0,y0,hTO⟩,h1,h2⟩:=st
  obtain⟨xs,ys,x,y,hqx,hqy,hx,hy⟩:=hg
  obtain⟨its,rv,p,_⟩:=I.list hqx
  obtain⟨its2,rv2,p2,_⟩:=I.list hqy
  obtain⟨u,hu,ru⟩:=rv.get hx
  obtain⟨u2,hu2,ru2⟩:=rv2.get hy
  have hzl:z < s.heap.objs.size:=bD hz
  refine wpAny_pyNext_zip_item D hz hTI hTO h1 h2 p.isList p2.isList (x:=u) (y:=u2) (by simpa using hu) (by simpa using hu2) λh' z' TO' h1' h2' hT hsz hk=> ?_
  refine⟨_,rfl,Yv (s:={ s with heap:=h' }) z' λh'' z'' sb=> ?_⟩
  have hT2:h''.get? s.heap.objs.size=some { cls:=.type "tuple",data:=.seq #[u,u2] }:=(sb.2 _ (oO hzl)).trans hT
  have new:kH X.prog X.w (upd H s.heap.objs.size (.tup [x,y])) h'' s.heap.objs.size (.tup [x,y]):=
   ⟨by show 2<=sizeLine;decide,[u,u2],.cons ru (.cons ru2 .nil),⟨_,hT2,rfl,_,rfl⟩⟩
  have I1:Inv X pins σ (upd H s.heap.objs.size (.tup [x,y])) { s with heap:=h'' }:=
   I.turnedNew (t':=s.toks) (ch:=[z,TI,TO,i1,i2]) (λc o hb q=>(sb.2 c (λq'=>hb (by simp[q']))).trans (hk c o (λq'=>hb (by simp[q'])) (λq'=>hb (by simp[q'])) (λq'=>hb (by simp[q'])) (λq'=>hb (by simp[q'])) q)) hf (aU _) new
  refine⟨.ref s.heap.objs.size,_,I1,rfl,⟨_,x,y,rfl,I.hok.fresh (aU _),rfl,λl hl=>by rw[I.list_inj hl hqx];exact hx,λl hl=>by rw[I.list_inj hl hqy];exact hy⟩,⟨z'',?_,⟨u,u2,?_⟩,?_,?_⟩,λc hcm=> ?_⟩
  ·exact(sb.2 _ D.TIz).trans (hk _ _ D.TIz D.TITO D.TIi1 D.TIi2 hTI)
  ·exact(sb.2 _ D.TOz).trans TO'
  ·exact h1'.at λo q=>(sb.2 _ D.i1z).trans q
  ·exact h2'.at λo q=>(sb.2 _ D.i2z).trans q
  ·have hlt:c < s.heap.objs.size:=by
    have e':c=z\/c=TI\/c=TO\/c=i1\/c=i2:=by simpa using hcm
    rcases e' with q | q | q | q | q
    ·rw[q];exact hzl
    ·rw[q];exact bD hTI
    ·rw[q];exact bD hTO
    ·rw[q];obtain⟨_,e1,_⟩:=h1;exact bD e1
    ·rw[q];obtain⟨_,e2,_⟩:=h2;exact bD e2
   rw[aM (cJ hlt)]
   exact(hf c hcm).1
 done:=by
  intro X hP hw hK hc i pins s σ H E I hf st hg
  subst hP hw hK
  obtain⟨hz,hTI,⟨x0,y0,hTO⟩,h1,h2⟩:=st
  obtain⟨xs,ys,hqx,hqy,hend⟩:=hg
  obtain⟨its,rv,p,_⟩:=I.list hqx
  obtain⟨its2,rv2,p2,_⟩:=I.list hqy
  have l1:=rv.length
  have l2:=rv2.length
  have he:its.toArray[i]? =none\/its2.toArray[i]? =none:=by
   rcases hend with q | q
   ·exact .inl (by simp;omega)
   ·exact .inr (by simp;omega)
  exact wpAny_pyNext_zip_end (I.ok.hd hc) D hz hTI hTO h1 h2 p.isList p2.isList he λh' hk=>⟨rfl,I.turnedL (t':=s.toks) (ch:=[z,TI,TO,i1,i2]) (λc o hb q=>
   hk c o (λq'=>hb (by simp[q'])) (λq'=>hb (by simp[q'])) (λq'=>hb (by simp[q'])) (λq'=>hb (by simp[q'])) q) hf⟩
 self:=λA i s Q E st h=>MF st.1 h
def U6 (K:PySem.W.Frag)(ta:TA):TI:=λσ H R=>ta σ H λvs H1=>∃a b xs ys,vs=[.ref a,.ref b]/\dX K H1 a xs/\dX K H1 b ys/\R (Itz K a b) H1
theorem E2 {X:Cx}{e e2:Expr}{ta:TA}{p pos tpos:Pos}{elts:List Expr}{kk:Nat}(hg:Gl X "zip")(hm:X.mg "zip"=none)(ha:PA X [e,e2] ta)
  (hs:starEach [e,e2] X.env=(false,eval e X.env)::starEach [e2] X.env:=by rfl) (hpl:(backTo pos (starEach [e2] X.env)).any (·.1)=false:=by rfl):
  PI X (.Tuple elts kk tpos) (.Call (.Name "zip" p) [e,e2] [] pos) (U6 X.K ta):=by
 intro pins s σ H R I h
 refine P5 (xO I hg hm Cr (eS (kC (ha pos pins s σ H _ I h) λus s1 ⟨vs,H1,I1,r1,q1⟩=> ?_) hs hpl))
 obtain⟨a,b,xs,ys,ex,hqx,hqy,q⟩:=q1
 subst ex
 cases r1 with
 | cons r rr=>
  cases rr with
  | cons r' rr=>
   cases rr
   cases r
   cases r'
   obtain⟨its,rv,p1,_⟩:=I1.list hqx
   obtain⟨its2,rv2,p2,_⟩:=I1.list hqy
   have la:a < s1.heap.objs.size:=p1.lt
   have lb:b < s1.heap.objs.size:=p2.lt
   refine call_zip_2 p1.isList p2.isList λh' hz hTI hTO h1 h2 hsz hk=>MF hz ?_
   have I2:Inv X pins σ H1 { s1 with heap:=h' }:=I1.kept (t':=s1.toks) hk
   refine⟨s1.heap.objs.size+4,[s1.heap.objs.size+4,s1.heap.objs.size+2,s1.heap.objs.size+3,s1.heap.objs.size,s1.heap.objs.size+1],_,_,H1,rfl,I2,Vo (PySem.W.ktu_apart s1.heap.objs.size a b la lb),⟨hz,hTI,⟨_,_,hTO⟩,h1,h2⟩,λc hcm=> ?_,q⟩
   have e':c=s1.heap.objs.size+4\/c=s1.heap.objs.size+2\/c=s1.heap.objs.size+3\/c=s1.heap.objs.size\/c=s1.heap.objs.size+1:=by simpa using hcm
   have hle:s1.heap.objs.size<=c:=by
    rcases e' with z | z | z | z | z
    ·rw[z];exact nW _ _
    ·rw[z];exact nW _ _
    ·rw[z];exact nW _ _
    ·rw[z];exact aU _
    ·rw[z];exact nW _ _
   exact I1.fpOk hle (I1.hok.fresh hle)
end L2
section
namespace TL
open PySem PySem.Builtin PySem.Builtin.Str PySem.StrLaws
abbrev tl (x:Str):List Nat:=x.cps.toList
def pre (S l:List Nat):Bool:=l.take S.length==S
def par (S:List Nat):List Nat->List Nat->Option (List Nat×List Nat)
 | _,[]=>none
 | acc,c::r=>if pre S (c::r)=true then some (acc,(c::r).drop S.length) else par S (acc++[c]) r
end TL
end
namespace L2
open PySem PySem.Spec PyProof.Rows
section
variable {X:Cx}{pins:List (Addr×Obj)}{σ:St}{H:Hp}{s:aI}{Q:VK}
theorem XC {x y z:Str}{t u v:Tok}{k:Nat}(I:Inv X pins σ H s)(h:∀p,H p=none->Q (.ref p) (upd H p (.tup [.str x,.str y,.str z]))):
  EP X pins σ Q (.ref s.heap.objs.size) { s with toks:=k,heap:=s.heap.push { cls:=.type "tuple",data:=.seq [OT x t,.str y u,.str z v].toArray } }:=by
 have hp:=I.hok.fresh (aU _)
 exact⟨.ref s.heap.objs.size,upd H s.heap.objs.size (.tup [.str x,.str y,.str z]),I.laid (λb u q=>aG _ q) (aU _)
  ⟨by show 3<=sizeLine;decide,[OT x t,.str y u,.str z v],.cons ⟨t,rfl⟩ (.cons ⟨u,rfl⟩ (.cons ⟨v,rfl⟩ .nil)),_,bF _ rfl,rfl,_,rfl⟩,rfl,h _ hp⟩
end
end L2
namespace Att
open PySem PySem.W PySem.Calls PyProof.Rows
section
variable {prog:bS}{w:cY}{A:dZ}{E:aC->aI->Prop}{s:aI}{K:Frag}
def noObjs (h:Heap):Heap:={ h with objs:= #[] }
theorem noObjs_get (h:Heap)(b:Addr):(noObjs h).get? b=none:=by
 cases e:(noObjs h).get? b with
 | none=>rfl
 | some o=>exact absurd (bD e) (X2 _)
def ledger (h:Heap)(L d:Addr):List (Addr×Obj):=(bA h.objs.size).filterMap λa=>if a=L\/a=d then none else(h.get? a).map λo=>(a,o)
theorem mem_ledger {h:Heap}{L d a:Addr}{o:Obj}:(a,o)∈ledger h L d↔a≠L/\a≠d/\h.get? a=some o:=by
 unfold ledger
 rw[lO]
 constructor
 ·rintro⟨b,_,e⟩
  split at e
  ·cases e
  ·rename_i hb
   obtain⟨o',ho,e'⟩:=cK.mp e
   cases e'
   exact⟨λq=>hb (.inl q),λq=>hb (.inr q),ho⟩
 ·rintro⟨n1,n2,ho⟩
  refine⟨a,bM.mpr (bD ho),?_⟩
  rw[if_neg (show¬(a=L\/a=d) from λq=>q.elim n1 n2),ho] <;> rfl
theorem fr_all {h:Heap}{L:Addr}{m:Str->Option aC}(n:h.Ns L m):Fr (noObjs h) L h m:=
 ⟨n,λb o e=>(by rw[noObjs_get] at e;cases e),cA _⟩
end
end Att
namespace L2
open PySem PySem.Spec PyProof.Rows
def fC (s:Stmt)(j:Nat):Stmt:=match s with
 | .ClassDef _ _ _ body _ _ _ _ _ _ _=>body.getD j (.Pass ⟨0,0,0,0⟩)
 | _=>.Pass ⟨0,0,0,0⟩
def defArgs (s:Stmt):Arguments:=match s with
 | .FunctionDef _ a _ _ _ _ _ _ _ _=>a
 | _=>{ posonlyargs:=[],args:=[],vararg:=none,kwonlyargs:=[],kw_defaults:=[],kwarg:=none,defaults:=[] }
def defBody (s:Stmt):List Stmt:=match s with
 | .FunctionDef _ _ b _ _ _ _ _ _ _=>b
 | _=>[]
def defScope (s:Stmt):Scope:=match s with
 | .FunctionDef _ _ _ _ _ _ sc _ _ _=>sc
 | _=>{ kind:=.function,names:=[],isGenerator:=false,isCoroutine:=false }
abbrev Ut:Zc:=λ_ _ _ _ _ _=>False
abbrev E0:XK:=λ_ _ _=>False
theorem WH {X:Cx}:CY Ut X E0:=λ_ _ _ _ _ _ _ h=>h.elim
structure B6 (K:PySem.W.Frag)(x qual:Str)(st:Stmt)(f:Addr)(fd:bG):Prop where
 ex:∃(oc:aC) (od:Option Addr) (kV doc pm:aC) (an:Option Addr) (cdv ct:aC) (osl:Array (Option aC)),
  fd=PySem.W.fnOf x qual (defArgs st) (defBody st) (defScope st) .none kV doc pm an cdv ct/\K.lookup f=some ⟨oc,od,.func fd,osl⟩/\PySem.W.codeIn K cdv qual=true
 kp:PySem.W.keepIn K (.ref f)=true
section
variable {P:bS}{w:cY}{K:PySem.W.Frag}{mg:Str->Option aC}{base:Heap}
theorem B6.ok {x qual:Str}{st:Stmt}{f:Addr}{fd:bG}{N ps:List Str}{k:Nat}{sp:Sp}(F:B6 K x qual st f fd)(S:bV N ps (defScope st))(len:∀vs H Q E,sp vs H Q E->vs.length=ps.length)
  (hbody:∀(cdv:aC) (A:dZ) (outer:List Env) (s:aI) (H:Hp) (vs:List V) (Q:VK) (E:XK),oJ k (A.deeper (envOfC qual (defScope st) s.heap.objs.size f cdv))->sp vs H Q E->
   ∃t,Ri (Jv Ut P w K mg base N qual (defScope st) f cdv A outer s H E).nox (defBody st) t/\t { nx:=λ_ H'=>Q .non H',rt:=Q } (start N vs) H):BL P w K mg base Ut (k+1) f fd ps sp:=by
 obtain⟨oc,od,kV,doc,pm,an,cdv,ct,osl,rfl,lk,hcd⟩:=F.ex
 refine z8 lk hcd S len λA outer s H vs Q E hr hsp=> ?_
 obtain⟨t,h,q⟩:=hbody cdv A outer s H vs Q E hr hsp
 exact⟨t,h.nox,q⟩
theorem B6.binds {x qual:Str}{st:Stmt}{f:Addr}{fd:bG}{ps:List Str}(F:B6 K x qual st f fd)
  (h:∀(kV doc pm:aC) (an:Option Addr) (cdv ct:aC) (us:List aC),us.length=ps.length->bindArgs (PySem.W.fnOf x qual (defArgs st) (defBody st) (defScope st) .none kV doc pm an cdv ct) ⟨us,[]⟩=pure (ps.zip us)):xY K fd ps []:=by
 obtain⟨oc,od,kV,doc,pm,an,cdv,ct,osl,rfl,lk,hcd⟩:=F.ex
 exact .all (h kV doc pm an cdv ct)
theorem Fe {x qual:Str}{st:Stmt}{f:Addr}{oc:aC}{od an:Option Addr}{osl:Array (Option aC)}{kV doc pm cdv ct:aC}(l:K.lookup f=some ⟨oc,od,.func (PySem.W.fnOf x qual (defArgs st) (defBody st) (defScope st) .none kV doc pm an cdv ct),osl⟩)
  (c:PySem.W.codeIn K cdv qual=true) (k:PySem.W.keepIn K (.ref f)=true):B6 K x qual st f (PySem.W.fnOf x qual (defArgs st) (defBody st) (defScope st) .none kV doc pm an cdv ct):=⟨⟨oc,od,kV,doc,pm,an,cdv,ct,osl,rfl,l,c⟩,k⟩
end
theorem KD {A:dZ}{k:Nat}(hr:oJ k A):A.units+1 < cLine:=B0 (Nat.add_le_add_left (by decide:1<=64) _) hr.units
section
variable {X:Cx}
theorem pv (i:Nat){x:Str}{pos:Pos}(hN:X.N[i]? =some x:=by rfl)(hv:V8 X.env.scope x:=by first | exact cB rfl | exact N8 (cB rfl) | exact N8 (N8 rfl))(hd:(x==("__debug__":Str))=false:=by decide)
  (hcd:(x==("__classdict__":Str))=false:=by decide):PE X (.Name x pos) (IJ i):=E4 hN hv hd hcd
end
def aZ (H H':Hp):Prop:=∀b o,H b=some o->H' b=some o
theorem aZ.refl (H:Hp):aZ H H:=λ_ _ h=>h
theorem aZ.trans {H H1 H2:Hp}(a:aZ H H1)(b:aZ H1 H2):aZ H H2:=λc o h=>b c o (a c o h)
theorem aZ.free {H H':Hp}(e:aZ H H'){l:Addr}(h:H' l=YY):H l=YY:=by
 cases q:H l with
 | none=>rfl
 | some o=>
  rw[e l o q] at h
  cases h
theorem aZ.seq {K:PySem.W.Frag}{H H':Hp}{a:Addr}{xs:List V}(e:aZ H H')(h:dX K H a xs):dX K H' a xs:=by
 rcases h with(h | ⟨o,h⟩) | h
 ·exact .inl (.inl (e _ _ h))
 ·exact .inl (.inr ⟨o,e _ _ h⟩)
 ·exact .inr h
theorem uO {xs:List V}{z:Int}{j:Nat}{v:V}(e:z=(j:Int))(h:xs[j]? =some v):L8 xs z=some v:=by
 rw[e]
 exact o9 h
theorem MO:∀{l:List Int} {j:Nat} {z y:Int},l[j]? =some z->(l.set j y).sum=l.sum - z+y
 | [],j,z,y,h=>by simp at h
 | a::r,0,z,y,h=>by
  have e:a=z:=cX h
  subst e
  show(y::r).sum=(a::r).sum - a+y
  rw[dW,dW]
  omega
 | a::r,j+1,z,y,h=>by
  have ih:=MO (l:=r) (j:=j) (z:=z) (y:=y) h
  show(a::r.set j y).sum=(a::r).sum - z+y
  rw[dW,dW,ih]
  omega
theorem aZ.made {H H1:Hp}{x dx C:Addr}(nx:H x=YY)(nd:H dx=YY)(k:∀b o,(upd (upd H dx (.own x)) x (.ins C dx [])) b=some o->b≠x->H1 b=some o):aZ H H1:=λb o e=>
 k b o (by rw[aM (bJ e nx),aM (bJ e nd)];exact e) (bJ e nx)
end L2
section
namespace L2
open PySem PySem.Spec PyProof.Rows
open PySem.W (WData Codec OpenSpec Well WellAll ReadsW ReadsAllW)
mutual
inductive Dw (K:PySem.W.Frag)(H:Hp):V->WData->Prop
 | non:Dw K H .non .none
 | bl (b:Bool):Dw K H (.bl b) (.bool b)
 | int (i:Int):Dw K H (.int i) (.int i)
 | str (x:Str):Dw K H (.str x) (.str x)
 | byt (b:Array UInt8):Dw K H (.byt b) (.bytes b.toList)
 | lst {a:Addr} {xs:List V} {ds:List WData}:dX K H a xs->HJ K H xs ds->Dw K H (.ref a) (.list ds)
 | tup {a:Addr} {xs:List V} {ds:List WData}:KH K H a xs->HJ K H xs ds->Dw K H (.ref a) (.tuple ds)
inductive HJ (K:PySem.W.Frag)(H:Hp):List V->List WData->Prop
 | nil:HJ K H [] []
 | cons {v:V} {vs:List V} {d:WData} {ds:List WData}:Dw K H v d->HJ K H vs ds->HJ K H (v::vs) (d::ds)
end
theorem Qq {K:PySem.W.Frag}{H:Hp}:∀ns:List Int,HJ K H (ns.map V.int) (ns.map WData.int)
 | []=>.nil
 | n::r=>.cons (.int n) (Qq r)
theorem Qj {K:PySem.W.Frag}{H:Hp}:∀(ns:List Int) (xs:List V),HJ K H xs (ns.map WData.int)->xs=ns.map V.int
 | [],xs,h=>by
  cases h
  rfl
 | n::r,xs,h=>by
  cases h with
  | cons h1 h2=>
   cases h1
   rw[Qj r _ h2] <;> rfl
section
variable {P:bS}{w:cY}{K:PySem.W.Frag}{H:Hp}{h:Heap}{R:PySem.W.WRecords}{cl:Str->Option Addr}
theorem C7 {a:Addr}{xs:List V}(hok:IG P w H h)(KX:K.In h)(q:dX K H a xs):∃(its:List aC) (o:Obj) (n:Nat),eG xs its/\h.get? a=some o/\o.cls=.type "list"/\o.data=.seq its.toArray n:=by
 rcases q with q | ⟨o,its,n,e,hc,_,hd,_,hv⟩
 ·obtain⟨_,its,n,hv,e⟩:=(show kH P w H h a (.lst xs) from q.ok hok)
  exact⟨its,_,n,hv,e,rfl,rfl⟩
 ·exact⟨its.toList,o,n,hv,KX _ _ e,hc,by simp[hd]⟩
theorem C6 {a:Addr}{xs:List V}(hok:IG P w H h)(KX:K.In h)(q:KH K H a xs):∃(its:List aC) (o:Obj) (n:Nat),eG xs its/\h.get? a=some o/\o.cls=.type "tuple"/\o.data=.seq its.toArray n:=by
 rcases q with q | ⟨o,its,n,e,hc,hd,_,hv⟩
 ·obtain⟨_,its,hv,o,e,hc,n,hd⟩:=(show kH P w H h a (.tup xs) from q.ok hok)
  exact⟨its,o,n,hv,e,hc,hd⟩
 ·exact⟨its.toList,o,n,hv,KX _ _ e,hc,by simp[hd]⟩
mutual
theorem Dw.reads (hok:IG P w H h)(KX:K.In h):∀(d:WData) (v:V) (u:aC),Dw K H v d->RelV v u->∃as,ReadsW R cl h u d as
 | .none,_,_,x,r=>by
  cases x
  cases r
  exact⟨_,ReadsW.none⟩
 | .bool b,_,_,x,r=>by
  cases x
  cases r
  exact⟨_,ReadsW.bool b⟩
 | .int i,_,_,x,r=>by
  cases x
  obtain⟨t,rfl⟩:=r
  exact⟨_,ReadsW.int i t⟩
 | .str s,_,_,x,r=>by
  cases x
  obtain⟨t,rfl⟩:=r
  exact⟨_,ReadsW.str s t⟩
 | .bytes b,_,_,x,r=>by
  cases x
  obtain⟨t,rfl⟩:=r
  exact⟨_,ReadsW.bytes _ t⟩
 | .list ds,_,_,x,r=>by
  cases x with
  | lst hs ha=>
   cases r
   obtain⟨its,o,n,rv,ho,hc,hd⟩:=C7 hok KX hs
   obtain⟨as,hr⟩:=Dw.readsAll hok KX ds _ its ha rv
   exact⟨_,ReadsW.list ho hc hd hr⟩
 | .tuple ds,_,_,x,r=>by
  cases x with
  | tup hs ha=>
   cases r
   obtain⟨its,o,n,rv,ho,hc,hd⟩:=C6 hok KX hs
   obtain⟨as,hr⟩:=Dw.readsAll hok KX ds _ its ha rv
   exact⟨_,ReadsW.tuple ho hc hd hr⟩
 | .float _,_,_,x,_=>by cases x
 | .dict _,_,_,x,_=>by cases x
 | .bytearray _,_,_,x,_=>by cases x
 | .set _,_,_,x,_=>by cases x
 | .frozenset _,_,_,x,_=>by cases x
 | .obj _ _,_,_,x,_=>by cases x
theorem Dw.readsAll (hok:IG P w H h)(KX:K.In h):∀(ds:List WData) (vs:List V) (us:List aC),HJ K H vs ds->eG vs us->∃as,ReadsAllW R cl h us ds as
 | [],_,_,x,r=>by
  cases x
  cases r
  exact⟨_,ReadsAllW.nil⟩
 | d::ds,_,_,x,r=>by
  cases x with
  | cons h1 h2=>
   cases r with
   | cons r1 r2=>
    obtain⟨as,q1⟩:=Dw.reads hok KX d _ _ h1 r1
    obtain⟨bs,q2⟩:=Dw.readsAll hok KX ds _ _ h2 r2
    exact⟨_,ReadsAllW.cons q1 q2⟩
end
end
mutual
def Pj:WData->Bool
 | .none=>true
 | .bool _=>true
 | .int _=>true
 | .str _=>true
 | .bytes _=>true
 | .list xs=>TU xs
 | .tuple xs=>TU xs
 | _=>false
def TU:List WData->Bool
 | []=>true
 | x::r=>Pj x&&TU r
end
theorem Ij {α:Type}{f:α->WData}(h:∀a,Pj (f a)=true):∀l:List α,TU (l.map f)=true
 | []=>rfl
 | x::r=>by
  show(Pj (f x)&&TU (r.map f))=true
  rw[h x,Ij h r] <;> rfl
theorem GB:∀(c:Codec) (a:c.denote),Pj (c.enc a)=true
 | .unit,_=>rfl
 | .bool,_=>rfl
 | .int _ _,_=>rfl
 | .nat _ _,_=>rfl
 | .u8,_=>rfl
 | .bytes _ _,_=>rfl
 | .text _ _ _ _,_=>rfl
 | .list _ _ c,a=>Ij (λx=>GB c x) a
 | .pair c d,a=>by
  show(Pj (c.enc a.1)&&(Pj (d.enc a.2)&&true))=true
  rw[GB c a.1,GB d a.2] <;> rfl
 | .triple c d e,a=>by
  show(Pj (c.enc a.1)&&(Pj (d.enc a.2.1)&&(Pj (e.enc a.2.2)&&true)))=true
  rw[GB c a.1,GB d a.2.1,GB e a.2.2] <;> rfl
 | .option c,none=>rfl
 | .option c,some x=>GB c x
theorem Bj:∀(cs:List Codec) (a:Codec.denoteAll cs),TU (Codec.encAll cs a)=true
 | [],_=>rfl
 | c::cs,a=>by
  show(Pj (c.enc a.1)&&TU (Codec.encAll cs a.2))=true
  rw[GB c a.1,Bj cs a.2] <;> rfl
theorem KP:∀{xs:List WData} {d:WData},d∈xs->d.weight<=WData.weightAll xs
 | [],d,h=>absurd h (by simp)
 | x::r,d,h=>by
  show d.weight<=x.weight+1+WData.weightAll r
  rcases bN.mp h with e | m
  ·rw[e]
   omega
  ·have z:=KP m
   omega
def Ge:aC->V
 | .none=>.non
 | .bool b=>.bl b
 | .int i _=>.int i
 | .str x _=>.str x
 | .bytes b _=>.byt b
 | .ref a=>.ref a
 | _=>.non
def Um (A:List Addr):aC->Prop
 | .none=>True
 | .bool _=>True
 | .int _ _=>True
 | .str _ _=>True
 | .bytes _ _=>True
 | .ref a=>a∈A
 | _=>False
theorem Um.mono {A B:List Addr}(h:∀a∈A,a∈B):∀{u:aC},Um A u->Um B u:=λ{u} x=>by
 cases u with
 | ref a=>exact h a x
 | none=>trivial
 | bool b=>trivial
 | int i t=>trivial
 | str s t=>trivial
 | bytes b t=>trivial
 | _=>exact fS x
theorem Wh {A:List Addr}{u:aC}(x:Um A u):RelV (Ge u) u:=by
 cases u with
 | ref a=>rfl
 | none=>rfl
 | bool b=>rfl
 | int i t=>exact⟨t,rfl⟩
 | str s t=>exact⟨t,rfl⟩
 | bytes b t=>exact⟨t,rfl⟩
 | _=>exact fS x
theorem zZ {A:List Addr}:∀{vs:List aC},(∀u∈vs,Um A u)->eG (vs.map Ge) vs
 | [],_=>.nil
 | u::r,h=>.cons (Wh (h u (aT ..))) (zZ λx hx=>h x (aN _ hx))
def HL (h:Heap)(A:List Addr)(a:Addr):Prop:=∃vs:List aC,vs.length<=sizeLine/\(∀u∈vs,Um A u)/\
 (h.get? a=some { cls:=.type "list",data:=.seq vs.toArray }\/h.get? a=some { cls:=.type "tuple",data:=.seq vs.toArray })
theorem HL.mono {h:Heap}{A B:List Addr}{a:Addr}(k:∀a∈A,a∈B)(x:HL h A a):HL h B a:=by
 obtain⟨vs,h1,h2,h3⟩:=x
 exact⟨vs,h1,λu hu=>(h2 u hu).mono k,h3⟩
theorem yG {P:Ku}{h:Heap}:∀{vs:List aC} {ds:List WData},WellAll P h vs ds->vs.length=ds.length
 | _,_,.nil=>rfl
 | _,_,.cons _ b=>by
  show _+1=_+1
  rw[yG b]
theorem Ak {P:Ku}{h:Heap}{v:aC}{ds:List WData}(x:Well P h v (.list ds)):∃(a:Addr) (vs:List aC),v=.ref a/\h.get? a=some { cls:=.type "list",data:=.seq vs.toArray }/\WellAll P h vs ds:=by
 cases x with
 | list ho hall=>exact⟨_,_,rfl,ho,hall⟩
theorem UR {P:Ku}{h:Heap}{v:aC}{ds:List WData}(x:Well P h v (.tuple ds)):∃(a:Addr) (vs:List aC),v=.ref a/\h.get? a=some { cls:=.type "tuple",data:=.seq vs.toArray }/\WellAll P h vs ds:=by
 cases x with
 | tuple ho hall=>exact⟨_,_,rfl,ho,hall⟩
theorem Al {P:Ku}{h:Heap}{us:List aC}{d:WData}{ds:List WData}(x:WellAll P h us (d::ds)):∃(v:aC) (vs:List aC),us=v::vs/\Well P h v d/\WellAll P h vs ds:=by
 cases x with
 | cons a b=>exact⟨_,_,rfl,a,b⟩
theorem Pz {n:Nat}(h:n<=1048576):n<=sizeLine:=cV h (by decide)
section
variable {P:Ku}{h:Heap}
mutual
theorem Yr:∀(d:WData) (v:aC),Well P h v d->Pj d=true->d.weight<=1048576->∃A:List Addr,Um A v/\∀a∈A,HL h A a
 | .none,_,x,_,_=>by
  cases x
  exact⟨[],trivial,λa m=>absurd m (by simp)⟩
 | .bool b,_,x,_,_=>by
  cases x
  exact⟨[],trivial,λa m=>absurd m (by simp)⟩
 | .int i,_,x,_,_=>by
  cases x
  exact⟨[],trivial,λa m=>absurd m (by simp)⟩
 | .str s,_,x,_,_=>by
  cases x
  exact⟨[],trivial,λa m=>absurd m (by simp)⟩
 | .bytes b,_,x,_,_=>by
  cases x
  exact⟨[],trivial,λa m=>absurd m (by simp)⟩
 | .list ds,_,x,p,z=>by
  obtain⟨a,vs,rfl,ho,hall⟩:=Ak x
  have z2:WData.weightAll ds<=1048576:=z
  obtain⟨A,h1,h2⟩:=OP ds _ hall p λd hd=>cV (KP hd) z2
  have k:∀b∈A,b∈a::A:=λb hb=>aN _ hb
  refine⟨a::A,aT ..,λb hb=> ?_⟩
  rcases bN.mp hb with e | m
  ·rw[e]
   exact⟨vs,Pz (by rw[yG hall];exact cV (PySem.W.length_le_weightAllW ds) z2),λu hu=>(h1 u hu).mono k,.inl ho⟩
  ·exact(h2 b m).mono k
 | .tuple ds,_,x,p,z=>by
  obtain⟨a,vs,rfl,ho,hall⟩:=UR x
  have z2:WData.weightAll ds<=1048576:=z
  obtain⟨A,h1,h2⟩:=OP ds _ hall p λd hd=>cV (KP hd) z2
  have k:∀b∈A,b∈a::A:=λb hb=>aN _ hb
  refine⟨a::A,aT ..,λb hb=> ?_⟩
  rcases bN.mp hb with e | m
  ·rw[e]
   exact⟨vs,Pz (by rw[yG hall];exact cV (PySem.W.length_le_weightAllW ds) z2),λu hu=>(h1 u hu).mono k,.inr ho⟩
  ·exact(h2 b m).mono k
 | .float _,_,_,p,_=>cO (show false=true from p)
 | .dict _,_,_,p,_=>cO (show false=true from p)
 | .bytearray _,_,_,p,_=>cO (show false=true from p)
 | .set _,_,_,p,_=>cO (show false=true from p)
 | .frozenset _,_,_,p,_=>cO (show false=true from p)
 | .obj _ _,_,_,p,_=>cO (show false=true from p)
theorem OP:∀(ds:List WData) (vs:List aC),WellAll P h vs ds->TU ds=true->(∀d∈ds,d.weight<=1048576)->∃A:List Addr,(∀u∈vs,Um A u)/\∀a∈A,HL h A a
 | [],_,x,_,_=>by
  cases x
  exact⟨[],λu m=>absurd m (by simp),λa m=>absurd m (by simp)⟩
 | d::ds,_,x,p,z=>by
  obtain⟨v,vs,rfl,x1,x2⟩:=Al x
  have q:Pj d=true/\TU ds=true:=Zd.mp p
  obtain⟨A,a1,a2⟩:=Yr d v x1 q.1 (z d (aT ..))
  obtain⟨B,b1,b2⟩:=OP ds vs x2 q.2 λe he=>z e (aN _ he)
  have kA:∀b∈A,b∈A++B:=λb hb=>cW.mpr (.inl hb)
  have kB:∀b∈B,b∈A++B:=λb hb=>cW.mpr (.inr hb)
  refine⟨A++B,λu hu=> ?_,λb hb=> ?_⟩
  ·rcases bN.mp hu with e | m
   ·rw[e]
    exact a1.mono kA
   ·exact(b1 u m).mono kB
  ·rcases cW.mp hb with m | m
   ·exact(a2 b m).mono kA
   ·exact(b2 b m).mono kB
end
end
def l8 (o:Obj):Option HO:=match o.data with
 | .seq vs _=>if(o.cls==oH "list")=true then some (.frz o (.lst (vs.toList.map Ge))) else some (.frz o (.tup (vs.toList.map Ge)))
 | _=>none
def uP (K:PySem.W.Frag)(h:Heap)(A:List Addr):Hp:=λb=>if b∈A then(if(K.lookup b).isNone=true then(h.get? b).bind l8 else none) else none
def X0 (H:Hp):Prop:=∀b,H b=none\/∃o u,H b=some (.frz o u)
theorem Jl (vs:List aC):l8 { cls:=.type "list",data:=.seq vs.toArray }=some (.frz { cls:=.type "list",data:=.seq vs.toArray } (.lst (vs.map Ge))):=by
 show(if(oH "list"==oH "list")=true then some (HO.frz { cls:=.type "list",data:=.seq vs.toArray } (.lst (vs.toArray.toList.map Ge))) else some (HO.frz { cls:=.type "list",data:=.seq vs.toArray } (.tup (vs.toArray.toList.map Ge))))=_
 rw[if_pos (beq_self_eq_true _)]
theorem Jk (vs:List aC):l8 { cls:=.type "tuple",data:=.seq vs.toArray }=some (.frz { cls:=.type "tuple",data:=.seq vs.toArray } (.tup (vs.map Ge))):=by
 show(if(oH "tuple"==oH "list")=true then some (HO.frz { cls:=.type "tuple",data:=.seq vs.toArray } (.lst (vs.toArray.toList.map Ge))) else some (HO.frz { cls:=.type "tuple",data:=.seq vs.toArray } (.tup (vs.toArray.toList.map Ge))))=_
 rw[if_neg (by decide)]
section
variable {P:bS}{w:cY}{K:PySem.W.Frag}{h:Heap}{A:List Addr}
theorem UO {b:Addr}{o:Obj}(hb:b∈A)(hk:K.lookup b=none)(e:h.get? b=some o):uP K h A b=l8 o:=by
 unfold uP
 rw[if_pos hb,hk,if_pos (show(none:Option Obj).isNone=true from rfl),e] <;> rfl
theorem j4 {b:Addr}{u:HO}(q:uP K h A b=some u):b∈A/\K.lookup b=none:=by
 unfold uP at q
 by_cases hb:b∈A
 ·rw[if_pos hb] at q
  cases hk:K.lookup b with
  | none=>exact⟨hb,rfl⟩
  | some o=>
   rw[hk,if_neg (by simp)] at q
   cases q
 ·rw[if_neg hb] at q
  cases q
theorem IE (ar:∀a∈A,HL h A a){b:Addr}{u:HO}(q:uP K h A b=some u):K.lookup b=none/\∃vs:List aC,vs.length<=sizeLine/\(∀u∈vs,Um A u)/\
  ((h.get? b=some { cls:=.type "list",data:=.seq vs.toArray }/\u=.frz { cls:=.type "list",data:=.seq vs.toArray } (.lst (vs.map Ge)))\/
   (h.get? b=some { cls:=.type "tuple",data:=.seq vs.toArray }/\u=.frz { cls:=.type "tuple",data:=.seq vs.toArray } (.tup (vs.map Ge)))):=by
 obtain⟨hb,hk⟩:=j4 q
 obtain⟨vs,h1,h2,h3⟩:=ar b hb
 refine⟨hk,vs,h1,h2,?_⟩
 rcases h3 with e | e
 ·rw[UO hb hk e,Jl] at q
  exact .inl ⟨e,(cX q).symm⟩
 ·rw[UO hb hk e,Jk] at q
  exact .inr ⟨e,(cX q).symm⟩
theorem Ug (ar:∀a∈A,HL h A a):X0 (uP K h A):=λb=>by
 cases q:uP K h A b with
 | none=>exact .inl rfl
 | some u=>
  obtain⟨_,vs,_,_,⟨_,e⟩ | ⟨_,e⟩⟩:=IE ar q
  ·exact .inr ⟨_,_,by rw[e]⟩
  ·exact .inr ⟨_,_,by rw[e]⟩
theorem UI {c c':aC}{vs us:List aC}(e:(some { cls:=c,data:=.seq vs.toArray }:Option Obj)=some { cls:=c',data:=.seq us.toArray }):c=c'/\vs=us:=by
 have e1:=cX e
 have e2:c=c':=congrArg Obj.cls e1
 have e3:Yx vs.toArray=Yx us.toArray:=congrArg Obj.data e1
 injection e3 with e4
 refine⟨e2,?_⟩
 have e5:=congrArg Rp e4
 simpa using e5
theorem cy (KX:K.In h)(ar:∀a∈A,HL h A a){a:Addr}{vs:List aC}(ha:a∈A)(e:h.get? a=some { cls:=.type "list",data:=.seq vs.toArray }):(∀u∈vs,Um A u)/\dX K (uP K h A) a (vs.map Ge):=by
 obtain⟨us,h1,h2,h3⟩:=ar a ha
 have hu:us=vs:=by
  rcases h3 with q | q
  ·rw[e] at q
   exact(UI q).2.symm
  ·rw[e] at q
   exact absurd (mK (UI q).1) (by decide)
 subst hu
 refine⟨h2,?_⟩
 cases hk:K.lookup a with
 | none=>exact .inl (.inr ⟨_,by rw[UO ha hk e,Jl]⟩)
 | some o=>
  have e2:=KX a o hk
  rw[e] at e2
  obtain rfl:=cX e2
  exact .inr ⟨_,us.toArray,_,hk,rfl,rfl,rfl,by rw[bK];exact h1,by simpa using zZ h2⟩
theorem cx (KX:K.In h)(ar:∀a∈A,HL h A a){a:Addr}{vs:List aC}(ha:a∈A)(e:h.get? a=some { cls:=.type "tuple",data:=.seq vs.toArray }):(∀u∈vs,Um A u)/\KH K (uP K h A) a (vs.map Ge):=by
 obtain⟨us,h1,h2,h3⟩:=ar a ha
 have hu:us=vs:=by
  rcases h3 with q | q
  ·rw[e] at q
   exact absurd (mK (UI q).1) (by decide)
  ·rw[e] at q
   exact(UI q).2.symm
 subst hu
 refine⟨h2,?_⟩
 cases hk:K.lookup a with
 | none=>exact .inl (.inr ⟨_,by rw[UO ha hk e,Jk]⟩)
 | some o=>
  have e2:=KX a o hk
  rw[e] at e2
  obtain rfl:=cX e2
  exact .inr ⟨_,us.toArray,_,hk,rfl,rfl,by rw[bK];exact h1,by simpa using zZ h2⟩
mutual
theorem K2 {Pm:Ku}(KX:K.In h)(ar:∀a∈A,HL h A a):∀(d:WData) (v:aC),Well Pm h v d->Pj d=true->Um A v->Dw K (uP K h A) (Ge v) d
 | .none,_,x,_,_=>by
  cases x
  exact .non
 | .bool b,_,x,_,_=>by
  cases x
  exact .bl b
 | .int i,_,x,_,_=>by
  cases x
  exact .int i
 | .str s,_,x,_,_=>by
  cases x
  exact .str s
 | .bytes b,_,x,_,_=>by
  cases x
  have z:=Dw.byt (K:=K) (H:=uP K h A) b.toArray
  exact z
 | .list ds,_,x,p,hu=>by
  obtain⟨a,vs,rfl,ho,hall⟩:=Ak x
  obtain⟨h2,hs⟩:=cy KX ar hu ho
  exact .lst hs (Fi KX ar ds _ hall p h2)
 | .tuple ds,_,x,p,hu=>by
  obtain⟨a,vs,rfl,ho,hall⟩:=UR x
  obtain⟨h2,hs⟩:=cx KX ar hu ho
  exact .tup hs (Fi KX ar ds _ hall p h2)
 | .float _,_,_,p,_=>cO (show false=true from p)
 | .dict _,_,_,p,_=>cO (show false=true from p)
 | .bytearray _,_,_,p,_=>cO (show false=true from p)
 | .set _,_,_,p,_=>cO (show false=true from p)
 | .frozenset _,_,_,p,_=>cO (show false=true from p)
 | .obj _ _,_,_,p,_=>cO (show false=true from p)
theorem Fi {Pm:Ku}(KX:K.In h)(ar:∀a∈A,HL h A a):∀(ds:List WData) (vs:List aC),WellAll Pm h vs ds->TU ds=true->(∀u∈vs,Um A u)->HJ K (uP K h A) (vs.map Ge) ds
 | [],_,x,_,_=>by
  cases x
  exact .nil
 | d::ds,_,x,p,hu=>by
  obtain⟨v,vs,rfl,x1,x2⟩:=Al x
  have q:Pj d=true/\TU ds=true:=Zd.mp p
  exact .cons (K2 KX ar d v x1 q.1 (hu _ (aT ..))) (Fi KX ar ds vs x2 q.2 λu m=>hu u (aN _ m))
end
end
theorem XB {ds:List WData}(h:WData.layableAll ds=true):∀d∈ds,d.weight<=1048576:=λd hd=>
 (PySem.W.layableW_iff.mp (cN.mp h d hd)).2.2
theorem XR:∀(cs:List Codec) (a:Codec.denoteAll cs),(Codec.encAll cs a).length=cs.length
 | [],_=>rfl
 | c::cs,a=>by
  show(Codec.encAll cs a.2).length+1=cs.length+1
  rw[XR cs a.2]
end L2
end
namespace My
open PySem
structure P1 (P:bS)(w:cY)(A:dZ)(i l:Addr)(S:Nat->Heap->Prop)(xs:Array aC):Prop where
 lt:∀{k h},S k h->i < h.objs.size
 stay:∀{k h h'},S k h->(∀o,h.get? i=some o->h'.get? i=some o)->(∀o,h.get? l=some o->h'.get? l=some o)->S k h'
 next:∀{k x s} {Q:aC->aI->Prop} {E},xs[k]? =some x->S k s.heap->(∀h',S (k+1) h'->oK i s.heap h'->Q x { s with heap:=h' })->wpAny (model P w) A (hX (.ref i)) Q E s
 last:∀{k s} {Q:aC->aI->Prop} {E:aC->aI->Prop},xs[k]? =none->S k s.heap->(∀h' e,Cz i s.heap h'->(∃o,h'.get? e=some o/\o.cls=.type "StopIteration")->E (.ref e) { s with heap:=h' })->wpAny (model P w) A (hX (.ref i)) Q E s
section
variable {P:bS}{w:cY}{A:dZ}{i l:Addr}{xs:Array aC}
theorem Gn (hh:A.handled=none)(hne:l≠i):P1 P w A i l (λk h=>h.IsListIter i l k/\h.IsList l xs) xs where
 lt:=λ⟨⟨_,e,_⟩,_⟩=>bD e
 stay:=λ⟨⟨o,e,r⟩,⟨o2,e2,r2⟩⟩ h1 h2=>⟨⟨o,h1 o e,r⟩,⟨o2,h2 o2 e2,r2⟩⟩
 next:=λhx ⟨a,b⟩ k=>wpAny_nextOf_list_item a b hx λh' a' sb=>k h' ⟨a',b.extBut sb.extBut hne⟩ sb
 last:=λhx ⟨a,b⟩ k=>wpAny_nextOf_list_end hh a b hx k
theorem Vx {B:dZ}(hh:B.handled=none){s:aI}{Q:Fin->aI->Prop}{E:aC->aI->Prop}(k:∀h' e,(∀b o,s.heap.get? b=some o->h'.get? b=some o)->(∃o,h'.get? e=some o/\o.cls=.type "StopIteration")->E (.ref e) { s with heap:=h' }):
  wpAny (model P w) B EL Q E s:=by
 unfold EL newExc newTuple
 refine aD (aD (lC (aD (Nu (a:=oI) rfl (lC (wpAny_raiseNew_none hh (k _ _ (λb o e=> ?_) ⟨_,bF _ rfl,rfl⟩)))))))
 exact aG _ (aG _ e)
theorem On (hh:A.handled=none)(hne:l≠i):P1 P w A i l (λk h=>h.IsTupleIter i l k/\h.IsTuple l xs) xs:=by
 have draw:∀{k s} {Q:aC->aI->Prop} {E:aC->aI->Prop},(s.heap.IsTupleIter i l k/\s.heap.IsTuple l xs)->(∀x,xs[k]? =some x->∀h',(h'.IsTupleIter i l (k+1)/\h'.IsTuple l xs)->oK i s.heap h'->Q x { s with heap:=h' })->
   (xs[k]? =none->∀h' e,Cz i s.heap h'->(∃o,h'.get? e=some o/\o.cls=.type "StopIteration")->E (.ref e) { s with heap:=h' })->wpAny (model P w) A (hX (.ref i)) Q E s:=by
  intro k s Q E ⟨a,b⟩ hQ hE
  have ty:=a.typeIs
  obtain⟨o,ho,hc,hd⟩:=a
  obtain⟨ol,hol,hcl,nl,hdl⟩:=b
  unfold hX
  refine aD (oN (name:=hU "__next__") ty Rf (sY Rf ty F.entry_tuple_iterator_next ?_ (F.args_tuple_iterator_next_1 _)))
  show wpAny _ _ (field (.ref i) 0 >>= λ_=>_) _ _ s
  refine aD (IV (x:=.ref l) ho hd rfl ?_)
  dsimp only
  rw[show(dQ l==oI)=false from rfl,if_neg bP]
  refine aD (IV (x:=.int k 0) ho hd rfl (aD (kO hol hdl ?_)))
  dsimp only
  rw[kN]
  have keep:∀{v:aC} {n:Nat},Cz i s.heap (s.heap.update i (Re (·.setIfInBounds n v))):=λ{v n}=>(lW ..).extBut
  cases hx:xs[k]? with
  | some x=>
   refine aD (UP ho hd (by show 1 < 2;decide) (bC ⟨x,rfl,bC ?_⟩))
   exact hQ x hx _ ⟨⟨_,lP _ ho (Yw (BN hd _)),by rw[N4,hc],by rw[BN hd];rfl⟩,⟨ol,keep _ _ hne hol,hcl,nl,hdl⟩⟩ (lW ..)
  | none=>
   refine aD (Va (aD (UP ho hd (by show 0 < 2;decide) (Vx (show A.in1.handled=none from hh) λh' e hk he=> ?_))))
   exact hE hx h' e (λb o n q=>hk b o (keep b o n q)) he
 exact⟨λ⟨⟨_,e,_⟩,_⟩=>bD e,λ⟨⟨o,e,r⟩,⟨o2,e2,r2⟩⟩ h1 h2=>⟨⟨o,h1 o e,r⟩,⟨o2,h2 o2 e2,r2⟩⟩,
  λ{k x s Q E} hx h kk=>draw h (λy hy=>by rw[hx] at hy;cases hy;exact kk) (λz=>by rw[hx] at z;cases z),λ{k s Q E} hx h kk=>draw h (λy hy=>by rw[hx] at hy;cases hy) λ_=>kk⟩
end
structure w9 (z TI TO i1 i2 l1 l2:Addr):Prop where
 z:∀c∈[TI,TO,i1,i2,l1,l2],c≠z
 TO:∀c∈[TI,i1,i2,l1,l2],c≠TO
 i1:∀c∈[TI,i2,l1,l2],c≠i1
 i2:∀c∈[TI,l1,l2],c≠i2
section
variable {P:bS}{w:cY}{A:dZ}{z TI TO i1 i2 l1 l2:Addr}{S1 S2:Nat->Heap->Prop}{xs ys:Array aC}{s:aI}
abbrev Za (z TO i1 i2:Addr)(h h':Heap):Prop:=∀c o,c≠z->c≠TO->c≠i1->c≠i2->h.get? c=some o->h'.get? c=some o
theorem Vj (D:w9 z TI TO i1 i2 l1 l2)(W1:P1 P w A.in1 i1 l1 S1 xs)(W2:P1 P w A.in1 i2 l2 S2 ys){k:Nat}{a b:aC}{Q:aC->aI->Prop}{E:aC->aI->Prop}(hz:Ny s.heap z TI TO .none)(hTI:vB s.heap TI (.ref i1) (.ref i2))(hTO:vB s.heap TO a b)(h1:S1 k s.heap)(h2:S2 k s.heap)
  (hQ:∀x y h',xs[k]? =some x->ys[k]? =some y->Ny h' z TI TO (rawInt s.heap.objs.size)->vB h' TO x y->S1 (k+1) h'->S2 (k+1) h'->vB h' s.heap.objs.size x y->Za z TO i1 i2 s.heap h'->Q (.ref s.heap.objs.size) { s with heap:=h' })
  (hE:(xs[k]? =none\/ys[k]? =none)->∀h' e,Za z TO i1 i2 s.heap h'->(∃o,h'.get? e=some o/\o.cls=.type "StopIteration")->E (.ref e) { s with heap:=h' }):
  wpAny (model P w) A.in1 (Builtin.«zip.__next__» ⟨[.ref z],[]⟩) (λfin s'=>∃v,fin=.done (.ret v)/\Q v s') E s:=by
 have nz:=D.z
 have nO:=D.TO
 have n1:=D.i1
 have n2:=D.i2
 simp only[xT] at nz nO n1 n2
 obtain⟨TIz,TOz,i1z,i2z,l1z,l2z,_⟩:=nz
 obtain⟨TIO,i1O,i2O,l1O,l2O,_⟩:=nO
 obtain⟨TI1,i21,l11,l21,_⟩:=n1
 obtain⟨TI2,l12,l22,_⟩:=n2
 show wpAny _ _ (field (.ref z) 2 >>= λ_=>_) _ _ s
 refine aD (IV (x:=.bool false) hz rfl rfl (aD (IV (x:=.ref TI) hz rfl rfl (aD (kO hTI rfl ?_)))))
 show wpAny _ _ (N6 (.ref z) >>= λ_=>_) _ _ s
 refine aD (show wpAny _ _ (field (.ref z) 0 >>= λ_=>_) _ _ s from aD (IV (x:=.none) hz rfl rfl (bC ?_)))
 show wpAny _ _ (if true=true then _ else _) _ _ s
 rw[if_pos rfl]
 refine aD (Va (aD (IV (x:=.ref TO) hz rfl rfl (aD (EX hz (by show 0 < 5;decide) λha za sa=> ?_)))))
 have za:Ny ha z TI TO .ellipsis:=za
 rw[O0,O0,List.zipIdx_nil,Gb]
 have sh:∀{c h h'} {p:Addr},oK p h h'->c≠p->∀o,h.get? c=some o->h'.get? c=some o:=λsb n o e=>sb.extBut _ _ n e
 have h1a:=W1.stay h1 (sh sa i1z) (sh sa l1z)
 have h2a:=W2.stay h2 (sh sa i2z) (sh sa l2z)
 have Oa:=sh sa TOz _ hTO
 have fin:∀(E:aC->aI->Prop) (h':Heap) (e:Addr),Ny h' z TI TO .ellipsis->(∃o,h'.get? e=some o/\o.cls=.type "StopIteration")->(∀h2,oK z h' h2->(∃o,h2.get? e=some o/\o.cls=.type "StopIteration")->E (.ref e) { s with heap:=h2 })->
   wpAny (model P w) A.in1 (setField (.ref z) 0 .none) (λ_ s'=>E (.ref e) s') E { s with heap:=h' }:=λE h' e hz' ⟨o,he,hc⟩ k=>
  EX hz' (by show 0 < 5;decide) λh2 _ sb=>k h2 sb ⟨o,sb.extBut _ _ (λq=>by rw[q,hz'] at he;cases he;exact absurd (mK hc) (by decide)) he,hc⟩
 refine aD (aD (aD (wpAny_onRaise ?_)))
 show wpAny _ _ (hX (.ref i1) >>= λ_=>_) _ _ _
 cases hx:xs[k]? with
 | none=>exact aD (W1.last hx h1a λhb e xb he=>fin E hb e (xb _ _ i1z.symm za) he λh2 sb he2=>hE (.inl hx) h2 e (λc o c1 _ c3 _ q=>sb.extBut _ _ c1 (xb _ _ c3 (sa.extBut _ _ c1 q))) he2)
 | some x=>
  refine aD (W1.next hx h1a λhb h1b sb=>bC ?_)
  have zb:=sh sb i1z.symm _ za
  have h2b:=W2.stay h2a (sh sb i21) (sh sb l21)
  refine aD (kO (sh sb i1O.symm _ Oa) rfl (aD (P2 (sh sb i1O.symm _ Oa) λhc Oc sc=> ?_)))
  have Oc:vB hc TO x b:=Oc
  have zc:=sh sc TOz.symm _ zb
  have h1c:=W1.stay h1b (sh sc i1O) (sh sc l1O)
  have h2c:=W2.stay h2b (sh sc i2O) (sh sc l2O)
  refine aD (vR (bC ?_))
  dsimp only
  rw[Gb]
  refine aD (aD (wpAny_onRaise ?_))
  show wpAny _ _ (hX (.ref i2) >>= λ_=>_) _ _ _
  cases hy:ys[k]? with
  | none=>exact aD (W2.last hy h2c λhd e xd he=>fin E hd e (xd _ _ i2z.symm zc) he λh2 sd he2=>hE (.inr hy) h2 e (λc o c1 c2 c3 c4 q=>sd.extBut _ _ c1 (xd _ _ c4 (sc.extBut _ _ c2 (sb.extBut _ _ c3 (sa.extBut _ _ c1 q))))) he2)
  | some y=>
   refine aD (W2.next hy h2c λhd h2d sd=>bC ?_)
   have Od:=sh sd i2O.symm _ Oc
   refine aD (kO Od rfl (aD (P2 Od λhf Of sf=> ?_)))
   have Of:vB hf TO x y:=Of
   have zf:=sh sf TOz.symm _ (sh sd i2z.symm _ zc)
   have h1f:=W1.stay (W1.stay h1c (sh sd i21.symm) (sh sd l12)) (sh sf i1O) (sh sf l1O)
   have h2f:=W2.stay h2d (sh sf i2O) (sh sf l2O)
   have hsz:hf.objs.size=s.heap.objs.size:=by rw[sf.1,sd.1,sc.1,sb.1,sa.1]
   have el:Za z TO i1 i2 s.heap hf:=λc o c1 c2 c3 c4 q=>sf.extBut _ _ c2 (sd.extBut _ _ c4 (sc.extBut _ _ c2 (sb.extBut _ _ c3 (sa.extBut _ _ c1 q))))
   refine aD (vR (bC ?_))
   dsimp only
   rw[Kn]
   refine bC (aD (kO Of rfl (aD (wpAny_newTuple ?_))))
   show wpAny _ _ (N7 (.ref z) (.ref hf.objs.size) >>= λ_=>_) _ _ _
   have zg:Ny (hf.push { cls:=.type "tuple",data:=.seq #[x,y] }) z TI TO .ellipsis:=aG _ zf
   refine aD (show wpAny _ _ (setField (.ref z) 0 (rawInt hf.objs.size) >>= λ_=>_) _ _ _ from aD (EX zg (by show 0 < 5;decide) λhg zh sg=>EX zh (by show 1 < 5;decide) λhk zk sk=>bC ⟨_,rfl,?_⟩))
   have up:∀c o,c≠z->hf.get? c=some o->hk.get? c=some o:=λc o n q=>sh sk n o (sh sg n o (aG _ q))
   have zl:z < hf.objs.size:=bD zf
   have N:vB hk hf.objs.size x y:=sh sk (oO zl) _ (sh sg (oO zl) _ (bF _ rfl))
   have R:=hQ x y hk hx hy (hsz ▸ zk) (up _ _ TOz Of) (W1.stay h1f (λo=>up _ o i1z) λo=>up _ o l1z) (W2.stay h2f (λo=>up _ o i2z) λo=>up _ o l2z) (hsz ▸ N) λc o c1 c2 c3 c4 q=>up c o c1 (el c o c1 c2 c3 c4 q)
   rw[<-hsz] at R
   exact R
theorem Gm (D:w9 z TI TO i1 i2 l1 l2)(W1:P1 P w A.in1 i1 l1 S1 xs)(W2:P1 P w A.in1 i2 l2 S2 ys){k:Nat}{a b:aC}{Q:Option aC->aI->Prop}{E:aC->aI->Prop}(hz:Ny s.heap z TI TO .none)(hTI:vB s.heap TI (.ref i1) (.ref i2))(hTO:vB s.heap TO a b)(h1:S1 k s.heap)(h2:S2 k s.heap)
  (hQ:∀x y h',xs[k]? =some x->ys[k]? =some y->Ny h' z TI TO (rawInt s.heap.objs.size)->vB h' TO x y->S1 (k+1) h'->S2 (k+1) h'->vB h' s.heap.objs.size x y->Za z TO i1 i2 s.heap h'->Q (some (.ref s.heap.objs.size)) { s with heap:=h' })
  (hN:(xs[k]? =none\/ys[k]? =none)->∀h',Za z TO i1 i2 s.heap h'->Q none { s with heap:=h' }):wpAny (model P w) A (pyNext (.ref z)) Q E s:=by
 have ty:s.TypeIs (.ref z) "zip":=⟨_,hz,rfl⟩
 unfold pyNext
 refine aD (Ab (oN (name:=hU "__next__") ty dz (sY dz ty F.entry_zip_next (Vj D W1 W2 hz hTI hTO h1 h2 (λx y h' a1 a2 a3 a4 a5 a6 a7 a8=>bC (hQ x y h' a1 a2 a3 a4 a5 a6 a7 a8)) λhn h' e el ⟨o,ho,hc⟩=> ?_) (F.args_zip_next_1 _))))
 exact aD (Kt (T:="StopIteration") (b:=true) ⟨o,ho,hc⟩ isSubtype_stop (bC (hN hn h' el)))
end
def x3 (h:Heap)(l1 l2:Addr):Heap:=((((h.push { cls:=.type "list_iterator",data:=.fields #[.ref l1,.int 0 0] }).push { cls:=.type "tuple_iterator",data:=.fields #[.ref l2,.int 0 0] }).push { cls:=.type "tuple",data:=.seq #[.ref h.objs.size,.ref (h.objs.size+1)] }).push { cls:=.type "tuple",data:=.seq #[.none,.none] }).push { cls:=.type "zip",data:=.fields #[.none,.bool false,.bool false,.ref (h.objs.size+2),.ref (h.objs.size+3)] }
theorem Vk (l1 l2:Addr)(xs ys:Array aC):Meets (Builtin.«zip.__new__» ⟨[.type "zip",.ref l1,.ref l2],[]⟩) (λ_ R s=>s.heap.IsList l1 xs/\s.heap.IsTuple l2 ys/\R (.ok (.ret (.ref (s.heap.objs.size+4)))) { s with heap:=x3 s.heap l1 l2 }):=
 .of_wp λprog w A R s ⟨h1,h2,k⟩=>by
  have e:=sub_zip
  obtain⟨hp,g,d,tk,os⟩:=s
  have h1:Heap.IsList (Y8 ⟨hp,g,d,tk,os⟩) l1 xs:=h1
  have h2:Heap.IsTuple (Y8 ⟨hp.push { cls:=.type "list_iterator",data:=.fields #[.ref l1,.int 0 0] },g,d,tk,os⟩) l2 ys:=Heap.IsTuple.push h2 _
  wp_walk using xB h1,Y4 h2
  refine⟨_,rfl,?_⟩
  simp only[dE]
  exact k
theorem Nj {P:bS}{w:cY}{A:dZ}{E:aC->aI->Prop}{s:aI}{l1 l2:Addr}{xs ys:Array aC}{Q:aC->aI->Prop}(h1:s.heap.IsList l1 xs)(h2:s.heap.IsTuple l2 ys)
  (k:∀h',Ny h' (s.heap.objs.size+4) (s.heap.objs.size+2) (s.heap.objs.size+3) .none->vB h' (s.heap.objs.size+2) (.ref s.heap.objs.size) (.ref (s.heap.objs.size+1))->vB h' (s.heap.objs.size+3) .none .none->h'.IsListIter s.heap.objs.size l1 0->h'.IsTupleIter (s.heap.objs.size+1) l2 0->
   (∀c o,s.heap.get? c=some o->h'.get? c=some o)->Q (.ref (s.heap.objs.size+4)) { s with heap:=h' }):wpAny (model P w) A (call (.type "zip") [.ref l1,.ref l2]) Q E s:=by
 refine callType_new F.called_zip (by decide) (F.typeCall_zip_2 _ _) (F.newCall_zip_2 _ _) (λobj=>F.args_object_init_3 obj _ _) F.entry_zip_new (Vk l1 l2 xs ys) ⟨h1,h2,?_⟩
 have up:∀{h:Heap} {c:Addr} {o o':Obj},h.get? c=some o->(h.push o').get? c=some o:=λe=>aG _ e
 have new:∀(h:Heap) (o:Obj) (n:Nat),h.objs.size=n->o.isFreed=false->(h.push o).get? n=some o:=λh o n e f=>e ▸ bF _ f
 have g4:=new ((((s.heap.push { cls:=.type "list_iterator",data:=.fields #[.ref l1,.int 0 0] }).push { cls:=.type "tuple_iterator",data:=.fields #[.ref l2,.int 0 0] }).push { cls:=.type "tuple",data:=.seq #[.ref s.heap.objs.size,.ref (s.heap.objs.size+1)] }).push { cls:=.type "tuple",data:=.seq #[.none,.none] }) { cls:=.type "zip",data:=.fields #[.none,.bool false,.bool false,.ref (s.heap.objs.size+2),.ref (s.heap.objs.size+3)] } (s.heap.objs.size+4) (by simp only[dE]) rfl
 refine⟨⟨_,g4,rfl⟩,k (x3 s.heap l1 l2) g4 ?_ ?_ ⟨{ cls:=.type "list_iterator",data:=.fields #[.ref l1,.int 0 0] },?_,rfl,rfl⟩ ⟨{ cls:=.type "tuple_iterator",data:=.fields #[.ref l2,.int 0 0] },?_,rfl,rfl⟩ λc o e=>up (up (up (up (up e))))⟩
 ·exact up (up (new _ _ _ (by simp only[dE]) rfl))
 ·exact up (new _ _ _ (by simp only[dE]) rfl)
 ·exact up (up (up (up (new _ _ _ rfl rfl))))
 ·exact up (up (up (new _ _ _ (by simp only[dE]) rfl)))
end My
namespace My
open PySem PySem.Spec PyProof.Rows L2
def mO (i:Nat):Stmt:=PySem.Challenge.pw_wordboard_s01_answers.main.body.getD i (.Pass ⟨0,0,0,0⟩)
structure fR (K:PySem.W.Frag)(mg:Str->Option aC)(x:Str)(st:Stmt)(ps:List Str)(f:Addr)(fd:bG):Prop where
 mg:mg x=some (.ref f)
 F:B6 K x x st f fd
 b:xY K fd ps []
structure fQ (K:PySem.W.Frag)(C:Addr)(x qual:Str)(st:Stmt)(ps:List Str)(f:Addr)(fd:bG):Prop where
 m:t8 K C x f
 F:B6 K x qual st f fd
 b:xY K fd ps []
structure EC (K:PySem.W.Frag)(mg:Str->Option aC)(x:Str)(C:Addr)(fs:List Str):Prop where
 mg:mg x=some (.ref C)
 cl:Rn K C
 no:∀f∈fs,fP K C f
structure A4 (K:PySem.W.Frag)(mg:Str->Option aC)(x:Str)(a:Addr)(xs:List Int):Prop where
 mg:mg x=some (.ref a)
 sq:∀H,KH K H a (xs.map V.int)
structure DictAt (K:PySem.W.Frag)(mg:Str->Option aC)(x:Str)(a:Addr)(kvs:List (List Int×Int)):Prop where
 mg:mg x=some (.ref a)
 nm:(a==sysModules)=false
 ob:∃(o:Obj) (es:Array lX) (ep:Nat) (xs:List (List mX×Addr×aC)),K.lookup a=some o/\o.ExactDict/\o.data=.dict es ep/\
  (∀(P:bS) (w:cY),es.toList=xs.map (entryOfKey (tupleKind (iD P w))))/\(xs.map (·.1)).Nodup/\
  Paired (λ(y:List mX×Addr×aC) (p:List Int×Int)=>y.1=p.1.map eI/\(∃t,y.2.2=pB p.2 t)/\
   ∃(o:Obj) (its:Array aC) (n:Nat),K.lookup y.2.1=some o/\o.cls=.type "tuple"/\o.data=.seq its n/\IntsAre its.toList p.1) xs kvs
section
variable {X:Cx}{x y m mm qual:Str}{st:Stmt}{ps fs:List Str}{f C:Addr}{fd:bG}{sp:Sp}{k n:Nat}{e o:Expr}{es:List Expr}{t:TA}{ta:TE}{p pos apos:Pos}{pl:Sem Bool}
theorem oF (D:fR X.K X.mg x st ps f fd)(G:BL X.prog X.w X.K X.mg X.base Ut k f fd ps sp)(hr:oJ n X.A)(ha:PA X (e::es) t)(hg:Gl X x:=by rfl)(hk:k<=n:=by decide)(hdb:(x==("__debug__":Str))=false:=by decide)
  (he:starEach (e::es) X.env=(false,eval e X.env)::starEach es X.env:=by rfl) (hpl:(backTo pos (starEach es X.env)).any (·.1)=false:=by rfl):PE X (.Call (.Name x p) (e::es) [] pos) (He sp [] E0 t):=Pn G (hr.mono hk) hg D.mg D.F.kp D.b .nil WH ha hdb he hpl
theorem U0 (D:fR X.K X.mg x st ps f fd)(G:BL X.prog X.w X.K X.mg X.base Ut k f fd ps sp)(hr:oJ n X.A)(hg:Gl X x:=by rfl)(hk:k<=n:=by decide)(hdb:(x==("__debug__":Str))=false:=by decide):PE X (.Call (.Name x p) [] [] pos) (He sp [] E0 ZI):=Wv G (hr.mono hk) hg D.mg D.F.kp D.b .nil WH hdb
theorem IL (ho:PE X o ta)(c:EC X.K X.mg y C fs)(D:fQ X.K C m qual st ps f fd)(G:BL X.prog X.w X.K X.mg X.base Ut k f fd ps sp)(hr:oJ n X.A)(ha:PA X (e::es) t)(hk:k<=n:=by decide)
  (he:starEach (e::es) X.env=(false,eval e X.env)::starEach es X.env:=by rfl) (hpl:(backTo pos (starEach es X.env)).any (·.1)=false:=by rfl)
  (ht:eval (.Call (.Attribute o m apos) (e::es) [] pos) X.env=(do
   let ov <-eval o X.env
   standAt apos.atName
   let (f,first) <-holding [ov] (getMethod ov m pl)
   callWith pos f first (backTo pos (starEach (e::es) X.env)) (backToKw pos (keywordEach [] X.env))):=by rfl):PE X (.Call (.Attribute o m apos) (e::es) [] pos) (Hc C m sp [] E0 ta t):=i5 ho c.cl D.m G (hr.mono hk) D.b .nil WH ha he hpl ht
theorem NJ (ho:PE X o ta)(c:EC X.K X.mg y C fs)(D:fQ X.K C m qual st ps f fd)(G:BL X.prog X.w X.K X.mg X.base Ut k f fd ps sp)(hr:oJ n X.A)(hk:k<=n:=by decide)
  (ht:eval (.Call (.Attribute o m apos) [] [] pos) X.env=(do
   let ov <-eval o X.env
   standAt apos.atName
   let (f,first) <-holding [ov] (getMethod ov m pl)
   callWith pos f first (backTo pos (starEach [] X.env)) (backToKw pos (keywordEach [] X.env))):=by rfl):PE X (.Call (.Attribute o m apos) [] [] pos) (Hc C m sp [] E0 ta ZI):=Wr ho c.cl D.m G (hr.mono hk) D.b .nil WH ht
theorem y9 (M:Mk X.K C f)(c:EC X.K X.mg x C fs)(D:fQ X.K C mm qual st ps f fd)(G:BL X.prog X.w X.K X.mg X.base Ut k f fd ps sp)(hr:oJ n X.A)(ha:PA X (e::es) t)(hg:Gl X x:=by rfl)(hk:k+1<=n:=by decide)(hdb:(x==("__debug__":Str))=false:=by decide)
  (he:starEach (e::es) X.env=(false,eval e X.env)::starEach es X.env:=by rfl) (hpl:(backTo pos (starEach es X.env)).any (·.1)=false:=by rfl):PE X (.Call (.Name x p) (e::es) [] pos) (Hd C sp [] E0 t):=i6 M G (hr.mono hk) hg c.mg D.b .nil WH ha hdb he hpl
theorem D9 (M:Mk X.K C f)(c:EC X.K X.mg x C fs)(D:fQ X.K C mm qual st ps f fd)(G:BL X.prog X.w X.K X.mg X.base Ut k f fd ps sp)(hr:oJ n X.A)(hg:Gl X x:=by rfl)(hk:k+1<=n:=by decide)(hdb:(x==("__debug__":Str))=false:=by decide):PE X (.Call (.Name x p) [] [] pos) (Hd C sp [] E0 ZI):=Ws M G (hr.mono hk) hg c.mg D.b .nil WH hdb
end
def Df (h:Heap)(mg:Str->Option aC):Prop:=∃bm o,mg "__builtins__"=some (.ref bm)/\bm≠builtinsNs/\bm≠mainGlobals/\h.get? bm=some o/\o.cls=.type "module"/\o.dict=some builtinsNs/\o.data=.plain
abbrev Ok (P:bS)(w:cY)(K:PySem.W.Frag)(mg:Str->Option aC)(k:Nat)(f:Addr)(fd:bG)(ps:List Str)(sp:Sp):Prop:=∀base:Heap,Df base mg->BL P w K mg base Ut k f fd ps sp
def FP (pre:List V->Hp->V->Prop):Sp:=λvs H Q _=>∃r,pre vs H r/\∀H',aZ H H'->Q r H'
theorem aZ.upd {H:Hp}{p:Addr}{o:HO}(h:H p=none):aZ H (upd H p o):=λb u e=>by
 rw[aM (bJ e h)];exact e
theorem Dg {H:Hp}{p:Addr}{o o':HO}:L2.upd (L2.upd H p o) p o'=L2.upd H p o':=by
 funext b
 unfold L2.upd
 split <;> rfl
theorem d5 (i j:Int):d7 (.int i) (.int j)=true:=rfl
theorem d6 (i j:Bool):d7 (.bl i) (.bl j)=true:=rfl
theorem cw {CX:Zc}{P:bS}{w:cY}{K:PySem.W.Frag}{mg:Str->Option aC}{base:Heap}{N:List Str}{qual:Str}{scope:Scope}{f:Addr}{cd:aC}{A:dZ}{outer:List Env}{s:aI}{H:Hp}{E:XK}:
  (Jv CX P w K mg base N qual scope f cd A outer s H E).K=K:=rfl
section
variable {X:Cx}
theorem fF {x:Str}{i:Int}{pos:Pos}(hg:Gl X x)(hm:∃t,X.mg x=some (.int i t))(hd:(x==("__debug__":Str))=false:=by decide):PE X (.Name x pos) (tC (.int i)):=by
 obtain⟨t,h⟩:=hm
 exact Pk hg h ⟨t,rfl⟩ hd
theorem Wt {x:Str}{a:Addr}{pos:Pos}(hg:Gl X x)(hm:X.mg x=some (.ref a))(hd:(x==("__debug__":Str))=false:=by decide):PE X (.Name x pos) (tC (.ref a)):=Pk hg hm (show RelV (.ref a) (dQ a) from rfl) hd
def WY (kvs:List (List Int×Int))(k:List Int):Option Int:=(kvs.find? λp=>decide (p.1=k)).map (·.2)
def Lu (a:Addr)(kvs:List (List Int×Int))(td ty tx:TE):TE:=λσ H Q=>td σ H λx H1=>x=.ref a/\ty σ H1 λy H2=>tx σ H2 λz H3=>∃b k,y=.ref b/\H3 b=some (.tup (k.map V.int))/\Q (((WY kvs k).map V.int).getD z) H3
theorem Qk:∀{a b:List Int},a.map (eI:Int->mX)=b.map eI->a=b
 | [],[],_=>rfl
 | [],_::_,e=>by simp at e
 | _::_,[],e=>by simp at e
 | x::xs,y::ys,e=>by
  rw[aJ,aJ] at e
  injection e with e1 e2
  rw[YM e1,Qk e2]
theorem YF {R:List mX×Addr×aC->List Int×Int->Prop}{k:List Int}(hR:∀y p,R y p->y.1=p.1.map eI/\∃t,y.2.2=pB p.2 t):∀{xs:List (List mX×Addr×aC)} {kvs:List (List Int×Int)},Paired R xs kvs->
  (∃v t,WY kvs k=some v/\(atKey xs (k.map eI)).map (·.2)=some (pB v t))\/(WY kvs k=none/\(atKey xs (k.map eI)).map (·.2)=none)
 | _,_,.nil=>.inr ⟨rfl,rfl⟩
 | _,_, @Paired.cons _ _ _ y p ys ps h t=>by
  obtain⟨h1,u,h2⟩:=hR _ _ h
  by_cases e:p.1=k
  ·refine .inl ⟨p.2,u,?_,?_⟩
   ·simp[WY,iV,e]
   ·simp[atKey,iV,h1,e,h2]
  ·have e1:WY (p::ps) k=WY ps k:=by simp[WY,iV,e]
   have e2:atKey (y::ys) (k.map eI)=atKey ys (k.map eI):=by
    have:¬y.1=k.map eI:=λz=>e (Qk (h1.symm.trans z))
    simp[atKey,iV,this]
   rw[e1,e2]
   exact YF hR t
theorem l6 (k:List Int):k.map V.int=(k.map (eI:Int->mX)).map kV:=by rw[bR];rfl
theorem XG {P:bS}{w:cY}:∀{ks:List Int} {us:List aC},IntsAre us ks->ItemsAre (iD P w) (ks.map eI) us
 | _,_,.nil=>.nil
 | _,_,.cons n t h=>.cons (SG P w n t) (XG h)
theorem Im {o e f:Expr}{apos cpos:Pos}{td ty tx:TE}{x:Str}{a:Addr}{kvs:List (List Int×Int)}{mg:Str->Option aC}(D:DictAt X.K mg x a kvs)(hu:X.A.units+1 < cLine)(ho:PE X o td)(he:PE X e ty)(hf:PE X f tx)(m:M2 X o "get" apos e f cpos):
  PE X (.Call (.Attribute o "get" apos) [e,f] [] cpos) (Lu a kvs td ty tx):=by
 intro pins s σ H Q I h
 obtain⟨ob,es,ep,xs,lk,ex,hd,hes,nd,pr⟩:=D.ob
 refine di m.base m.few m.line PySem.F.plainAttrs_dict PySem.F.slot_dict_get PySem.F.type_dict_get (kC (ho pins s σ H _ I h) λu s1 ⟨x,H1,I1,rx,ex1,q1⟩=> ?_)
 subst ex1
 obtain rfl:u=dQ a:=rx
 have hob:∀{s:aI} {H:Hp},Inv X pins σ H s->s.heap.get? a=some ob:=λI=>I.kIn a ob lk
 refine⟨⟨ob,hob I1,ex.1⟩,λb q=> ?_,?_⟩
 ·cases q
  exact⟨ob,hob I1,ex.2.1⟩
 rw[m.trees]
 refine Rg rfl (Ve (zW (kC (he pins s1 σ H1 _ I1 q1) λiv s2 ⟨y,H2,I2,ry,q2⟩=>
  zW (kC (hf pins s2 σ H2 _ I2 q2) λfv s3 ⟨z,H3,I3,rz,b,k,ey,eb,q3⟩=>UQ ?_))))
 subst ey
 cases (show iv=dQ b from ry)
 rw[l6] at eb
 have all:∀{l:List (List mX×Addr×aC)} {m:List (List Int×Int)},Paired (λ(y:List mX×Addr×aC) (p:List Int×Int)=>y.1=p.1.map eI/\(∃t,y.2.2=pB p.2 t)/\
   ∃(o:Obj) (its:Array aC) (n:Nat),X.K.lookup y.2.1=some o/\o.cls=.type "tuple"/\o.data=.seq its n/\IntsAre its.toList p.1) l m->∀x∈l,(tupleKind (iD X.prog X.w)).is s3.heap x.1 x.2.1:=by
  intro l m q
  induction q with
  | nil=>intro x hx;exact nomatch hx
  | @cons p q ps qs hq t ih=>
   intro x hx
   rcases bN.mp hx with e | hx
   ·subst e
    obtain⟨e1,_,o2,its,n,l2,c2,d2,i2⟩:=hq
    refine⟨o2,its,n,I3.kIn _ _ l2,c2,d2,?_⟩
    rw[e1]
    exact XG i2
   ·exact ih x hx
 have dd:s3.heap.DictOfH (tupleKind (iD X.prog X.w)) a xs:=⟨ob,es,ep,hob I3,ex,hd,hes _ _,all pr,nd⟩
 refine call_meetsIn PySem.F.slot_dict_get dd.typeIs PySem.F.entry_dict_get (PySem.F.args_dict_get_3 _ _ _) (meetsH_dict_get_default (tupleKind (iD X.prog X.w)) a b D.nm fv) ⟨uZ hu,k.map eI,xs,QO I3.hok eb,dd,?_⟩
 rcases YF (k:=k) (λy p h=>⟨h.1,h.2.1⟩) pr with⟨v,t,h1,h2⟩ | ⟨h1,h2⟩
 ·rw[h2]
  rw[h1] at q3
  exact⟨.int v,H3,I3.tok _,⟨t,rfl⟩,q3⟩
 ·rw[h2]
  rw[h1] at q3
  exact⟨z,H3,I3.tok _,rz,q3⟩
end
def rZ (D:Addr)(H:Hp)(acc:List V)(o:Option V)(Nx:Hp->Prop):Prop:=∀H4,aZ H H4->Nx (match o with | some y=>L2.upd H4 D (.lst (acc++[y])) | none=>H4)
theorem rZ.yes {D:Addr}{H H4:Hp}{acc:List V}{y:V}{Nx:Hp->Prop}(k:rZ D H acc (some y) Nx)(hD:H D=some (.lst acc))(hz:acc.length < sizeLine)(e:aZ H H4):
  ∃acc,H4 D=some (.lst acc)/\acc.length < sizeLine/\Nx (L2.upd H4 D (.lst (acc++[y]))):=⟨acc,e _ _ hD,hz,k H4 e⟩
theorem rZ.no {D:Addr}{H H4:Hp}{acc:List V}{Nx:Hp->Prop}(k:rZ D H acc none Nx)(e:aZ H H4):Nx H4:=k H4 e
theorem Sw {lo:Int}{n:Nat}{g:TG}{tt:TT}{te:TE}{vs:List Nat}{σ:L2.St}{H1:Hp}{D:Addr}{Qd:Hp->Prop}(f:Nat->Option V)(hD:H1 D=none)(hz:n<=sizeLine)
  (hs:∀(i:Nat) H acc Nx,i < n->aZ H1 H->H D=some (.lst acc)->acc.length < sizeLine->rZ D H acc (f i) Nx->g (.int (lo+i)) (jS σ vs) H λσ2 H2=>jS σ2 vs=jS σ vs/\tt σ2 H2 λb H3=>
   if b=true then te σ2 H3 λy H4=>∃acc,H4 D=some (.lst acc)/\acc.length < sizeLine/\Nx (L2.upd H4 D (.lst (acc++[y]))) else Nx H3)
  (hd:∀H,aZ H1 H->H D=some (.lst ((bA n).filterMap f))->Qd H):
  ∃W:Nat->Nat->Hp->Prop,(∃m,W 0 m (L2.upd H1 D (.lst [])))/\∀i m H,W i m H->
   ((Us lo n).stop i H/\Qd H)\/((Us lo n).go i H/\∃Nx:Hp->Prop,(∀H',Nx H'->∃m',m' < m/\W (i+1) m' H')/\∀x H',(Us lo n).yld i H x H'->g x (jS σ vs) H' λσ2 H2=>jS σ2 vs=jS σ vs/\tt σ2 H2 λb H3=>
    if b=true then te σ2 H3 λy H4=>∃acc,H4 D=some (.lst acc)/\acc.length < sizeLine/\Nx (L2.upd H4 D (.lst (acc++[y]))) else Nx H3):=by
 refine Xk (n:=n) (λi H=>aZ H1 H/\H D=some (.lst ((bA i).filterMap f))) ⟨aZ.upd hD,by rw[aK];simp⟩ (λi H hi p=> ?_) (λH p=>hd H p.1 p.2)
 have hlt:((bA i).filterMap f).length < sizeLine:=by
  have h1:((bA i).filterMap f).length<=(bA i).length:=Og _ _
  rw[cR] at h1
  omega
 refine hs i H _ (λH=>aZ H1 H/\H D=some (.lst ((bA (i+1)).filterMap f))) hi p.1 p.2 hlt λH4 e=> ?_
 cases ef:f i with
 | some y=>
  refine⟨λb o eb=> ?_,?_⟩
  ·show L2.upd H4 D _ b=_
   rw[aM (bJ eb hD)]
   exact e _ _ (p.1 _ _ eb)
  ·show L2.upd H4 D _ D=_
   rw[aK,pC,jJ,dM,ef];rfl
 | none=>
  refine⟨p.1.trans e,?_⟩
  show H4 D=_
  rw[e _ _ p.2,pC,jJ,dM,ef]
  simp
theorem Ux {α:Type}{K:PySem.W.Frag}{tl:TE}{g:TG}{tt:TT}{te:TE}{vs:List Nat}{σ:L2.St}{H:Hp}{Q:VK}{xs:List α}(e:α->V)(f:α->Option V)(C:Addr->Hp->Prop)
  (htl:∀R:VK,(∀a H1,C a H1->R (.ref a) H1)->tl σ H R) (hl:∀a H1,C a H1->dX K H1 a (xs.map e)) (hz:xs.length<=sizeLine)
  (hs:∀a H1 D,C a H1->H1 D=none->∀(i:Nat) x H acc Nx,xs[i]? =some x->aZ H1 H->H D=some (.lst acc)->acc.length < sizeLine->rZ D H acc (f x) Nx->g (e x) (jS σ vs) H λσ2 H2=>jS σ2 vs=jS σ vs/\tt σ2 H2 λb H3=>
   if b=true then te σ2 H3 λy H4=>∃acc,H4 D=some (.lst acc)/\acc.length < sizeLine/\Nx (L2.upd H4 D (.lst (acc++[y]))) else Nx H3)
  (hd:∀a H1 D H',C a H1->H1 D=none->aZ H1 H'->H' D=some (.lst (xs.filterMap f))->Q (.ref D) H'):Uu (Cc K tl) g tt te vs σ H Q:=by
 refine htl _ λa H1 c=>⟨a,rfl,⟨_,hl a H1 c⟩,λD hD=> ?_⟩
 refine Qg (xs:=xs.map e) (λi H=>aZ H1 H/\H D=some (.lst ((xs.take i).filterMap f))) ⟨aZ.upd hD,by rw[aK];simp⟩ (λi H _ p=>p.1.seq (hl a H1 c)) (λi x H hx p=> ?_) (λH p=>hd a H1 D H c hD p.1 (by rw[p.2,aA,qR]))
 rw[aP] at hx
 obtain⟨z,hz',rfl⟩:=cK.mp hx
 have ht:xs.take (i+1)=xs.take i++[z]:=by
  rw[jV,hz'];rfl
 have hlt:((xs.take i).filterMap f).length < sizeLine:=by
  have h1:((xs.take i).filterMap f).length<=(xs.take i).length:=Og _ _
  have h2:i < xs.length:=(bL.mp hz').1
  rw[iH] at h1
  omega
 refine hs a H1 D c hD i z H _ (λH=>aZ H1 H/\H D=some (.lst ((xs.take (i+1)).filterMap f))) hz' p.1 p.2 hlt λH4 e=> ?_
 cases ef:f z with
 | some y=>
  refine⟨λb o eb=> ?_,?_⟩
  ·show L2.upd H4 D _ b=_
   rw[aM (bJ eb hD)]
   exact e _ _ (p.1 _ _ eb)
  ·show L2.upd H4 D _ D=_
   rw[aK,ht,jJ,dM,ef];rfl
 | none=>
  refine⟨p.1.trans e,?_⟩
  show H4 D=_
  rw[e _ _ p.2,ht,jJ,dM,ef]
  simp
def Ld (H:Hp)(a:Addr)(a':Addr)(H':Hp):Prop:=a'=a/\H'=H
theorem lcN {ta:TA}{g:TG}{tt:TT}{te:TE}{vs:List Nat}{σ:L2.St}{H:Hp}{Q:VK}{n:Nat}(f:Nat->Option V)
  (hta:∀R:List V->Hp->Prop,R [.int (n:Int)] H->ta σ H R) (hz:n<=sizeLine)
  (hs:∀D,H D=none->∀(i:Nat) H' acc Nx,i < n->aZ H H'->H' D=some (.lst acc)->acc.length < sizeLine->rZ D H' acc (f i) Nx->g (.int (i:Int)) (jS σ vs) H' λσ2 H2=>jS σ2 vs=jS σ vs/\tt σ2 H2 λb H3=>
   if b=true then te σ2 H3 λy H4=>∃acc,H4 D=some (.lst acc)/\acc.length < sizeLine/\Nx (L2.upd H4 D (.lst (acc++[y]))) else Nx H3)
  (hd:∀D H',H D=none->aZ H H'->H' D=some (.lst ((bA n).filterMap f))->Q (.ref D) H'):Uu (Ql ta) g tt te vs σ H Q:=by
 have hs2:sizeLine=16777216:=aX
 refine hta _ ⟨n,rfl,by omega,by omega,λD hD=> ?_⟩
 rw[kN]
 refine Sw f hD hz (λi H' acc Nx hi e1 e2 e3 e4=> ?_) (λH' e1 e2=>hd D H' hD e1 e2)
 have e0:(0:Int)+(i:Int)=(i:Int):=by omega
 rw[e0]
 exact hs D hD i H' acc Nx hi e1 e2 e3 e4
theorem K0 {α:Type}{K:PySem.W.Frag}{tl:TE}{g:TG}{tb:TS}{D:DA}{σ:L2.St}{H:Hp}{xs:List α}(e:α->V)(C:Addr->Hp->Prop)(htl:∀R:VK,(∀a H1,C a H1->R (.ref a) H1)->tl σ H R)(Pv:Addr->Nat->L2.St->Hp->Prop)
  (h0:∀a H1,C a H1->Pv a 0 σ H1) (hl:∀a i σ' H',Pv a i σ' H'->dX K H' a (xs.map e))
  (hs:∀a (i:Nat) x σ' H',xs[i]? =some x->Pv a i σ' H'->g (e x) σ' H' λσ2 H2=>tb { D with nx:=Pv a (i+1),ct:=Pv a (i+1),bk:=D.nx } σ2 H2) (hd:∀a σ' H',Pv a xs.length σ' H'->D.nx σ' H'):ZJ (Cc K tl) g tb D σ H:=by
 refine htl _ λa H1 c=>⟨a,rfl,⟨_,hl a 0 σ H1 (h0 a H1 c)⟩,Jn (K:=K) (a:=a) (xs:=xs.map e) (Pv a) (h0 a H1 c) (λi σ' H' _ p=>hl a i σ' H' p) (λi x σ' H' hx p=> ?_) (λσ' H' p=>hd a σ' H' (by rw[aA] at p;exact p))⟩
 rw[aP] at hx
 obtain⟨z,hz,rfl⟩:=cK.mp hx
 exact hs a i z σ' H' hz p
theorem V0 {ta:TA}{g:TG}{tb:TS}{D:DA}{σ:L2.St}{H:Hp}{n:Nat}(hta:∀R:List V->Hp->Prop,R [.int (n:Int)] H->ta σ H R)(hz:n<=sizeLine)(Pv:Nat->L2.St->Hp->Prop)(h0:Pv 0 σ H)
  (hs:∀(i:Nat) σ' H',i < n->Pv i σ' H'->g (.int (i:Int)) σ' H' λσ2 H2=>tb { D with nx:=Pv (i+1),ct:=Pv (i+1),bk:=D.nx } σ2 H2) (hd:∀σ' H',Pv n σ' H'->D.nx σ' H'):ZJ (Ql ta) g tb D σ H:=by
 have hs2:sizeLine=16777216:=aX
 refine hta _ ⟨n,rfl,by omega,by omega,?_⟩
 rw[kN]
 refine Tj Pv h0 (λi σ' H' hi p=> ?_) hd
 have e0:(0:Int)+(i:Int)=(i:Int):=by omega
 rw[e0]
 exact hs i σ' H' hi p
theorem ifG {tc:TT}{t u:TS}{D:DA}{σ:L2.St}{H:Hp}(c:Bool)(h:∀Q:Bool->Hp->Prop,(∀H',aZ H H'->Q c H')->tc σ H Q)(k1:∀H',aZ H H'->c=true->t D σ H')(k2:∀H',aZ H H'->c=false->u D σ H'):Lr tc t u D σ H:=by
 refine h _ λH' e=> ?_
 cases c with
 | true=>exact k1 H' e rfl
 | false=>exact k2 H' e rfl
theorem cc {tc:TT}{t u:TS}{D:DA}{σ:L2.St}{H:Hp}(c:Bool)(h:∀Q:Bool->Hp->Prop,Q c H->tc σ H Q)(k1:c=true->t D σ H)(k2:c=false->u D σ H):Lr tc t u D σ H:=by
 refine h _ ?_
 cases c with
 | true=>exact k1 rfl
 | false=>exact k2 rfl
theorem XI {tc:TT}{t uL:TS}{D:DA}{σ:L2.St}{H:Hp}(c:Bool)(h:∀Q:Bool->Hp->Prop,(∀H',aZ H H'->Q c H')->tc σ H Q)(k1:∀H',aZ H H'->c=true->t { D with nx:=uL D } σ H')(k2:∀H',aZ H H'->c=false->uL D σ H'):Sb (Lr tc t Aq) uL D σ H:=
 ifG c h k1 k2
theorem OE {tc:TT}{t uL:TS}{D:DA}{σ:L2.St}{H:Hp}(c:Bool)(h:∀Q:Bool->Hp->Prop,Q c H->tc σ H Q)(k1:c=true->t { D with nx:=uL D } σ H)(k2:c=false->uL D σ H):Sb (Lr tc t Aq) uL D σ H:=
 cc c h k1 k2
theorem Mr {b:Bool}(h:(!b)=false):b=true:=by cases b <;> simp at h ⊢
theorem Pr {b:Bool}(h:(!b)=true):b=false:=by cases b <;> simp at h ⊢
theorem LQ {α β:Type}(f:α->β)(l:List α):l.filterMap (λx=>some (f x))=l.map f:=by
 induction l with
 | nil=>rfl
 | cons a l ih=>rw[dM,aJ,ih]
theorem YH (l:List α)(p:α->Bool):(l.map p).all id=l.all p:=by
 induction l with
 | nil=>rfl
 | cons a l ih=>simp[ih]
theorem IntsAre.get {its:List aC}{ns:List Int}(h:IntsAre its ns):∀{j:Nat} {v:aC},its[j]? =some v->∃n t,v=.int n t/\ns[j]? =some n:=by
 induction h with
 | nil=>intro j v e;simp at e
 | cons n t h ih=>
  intro j v e
  cases j with
  | zero=>simp at e;exact⟨n,t,e.symm,rfl⟩
  | succ j=>simpa using ih (by simpa using e)
theorem IntsAre.eraseIdx {its:List aC}{ns:List Int}(h:IntsAre its ns):∀(j:Nat),IntsAre (its.eraseIdx j) (ns.eraseIdx j):=by
 induction h with
 | nil=>intro j;exact .nil
 | cons n t h ih=>
  intro j
  cases j with
  | zero=>exact h
  | succ j=>exact .cons n t (ih j)
theorem Jj {y:Int}:∀{ns:List Int} {m:Nat},ns[m]? =some y->ns.idxOf y<=m
 | [],m,h=>by simp at h
 | a::ns,m,h=>by
  rw[KN]
  cases m with
  | zero=>
   have:a=y:=by simpa using h
   simp[this]
  | succ m=>
   have:=Jj (ns:=ns) (m:=m) (by simpa using h)
   cases hc:(a==y) <;> simp[hc]
   exact this
theorem Cf (y:Int):∀(ns:List Int),ns.erase y=ns.eraseIdx (ns.idxOf y)
 | []=>rfl
 | a::ns=>by
  rw[KO,KN]
  cases hc:(a==y)
  ·simp[hc,Cf y ns]
  ·simp[hc]
section
variable {X:Cx}
def Q8:V->List V->Hp->VK->Prop:=λx xs H Q=>∃(a:Addr) (ns:List Int) (y:Int),x=V.ref a/\xs=[.int y]/\H a=some (.lst (ns.map V.int))/\y∈ns/\Q .non (L2.upd H a (.lst ((ns.erase y).map V.int)))
theorem Bq:eu X "list.remove" Q8:=by
 intro pins s σ H x vs v us Q I rx rv h
 obtain⟨l,ns,y,rfl,rfl,hH,hy,q⟩:=h
 cases rx
 obtain⟨u,rfl,ru⟩:=rv.one
 obtain⟨ty,rfl⟩:=ru
 obtain⟨z,its,n,r,hl,e⟩:=I.lstM hH
 have hi:IntsAre its ns:=r.ints
 have hlen:its.length=ns.length:=hi.length
 let f:aC->Bool:=λv=>match v with | .int n _=>n==y | _=>false
 have he:∀v,v∈its.toArray->PySem.MeetsSeq.EqGives v (.int y ty) (f v):=λv hv=>by
  obtain⟨j,hj⟩:=List.getElem?_of_mem (by simpa using hv:v∈its)
  obtain⟨n,t,rfl,_⟩:=IntsAre.get hi hj
  exact PySem.MeetsSeq.EqGives.int n y t ty
 have hj:ns.idxOf y < ns.length:=Oh.mpr hy
 have at_:∀(m:Nat) (hm:m < its.toArray.size),∃n t,its.toArray[m]=.int n t/\ns[m]? =some n:=λm hm=>by
  have e1:its[m]? =some (its.toArray[m]):=by simp at hm ⊢
  exact IntsAre.get hi e1
 have hj2:ns.idxOf y < its.toArray.size:=by simp only[bK];omega
 refine PB PySem.F.slot_list_remove ⟨_,e,rfl⟩ PySem.F.entry_list_remove (PySem.F.args_list_remove_2 _ _)
  (PySem.MeetsSeq.list_remove l its.toArray n (.int y ty) f he (ns.idxOf y) hj2 ?_ ?_ (by simp only[bK];omega)) ⟨e,?_⟩
 ·obtain⟨n',t,e1,e2⟩:=at_ _ hj2
  rw[e1]
  have e3:ns[ns.idxOf y]? =some y:=by rw[aE hj,u9 hj]
  rw[e3] at e2
  cases e2
  simp[f]
 ·intro m hm hmj
  obtain⟨n',t,e1,e2⟩:=at_ m hm
  rw[e1]
  show(n'==y)=false
  have hm':m < ns.length:=by omega
  rw[aE hm'] at e2
  cases e2
  exact beq_eq_false_iff_ne.mpr λhc=>absurd hmj (Nat.not_lt.mpr (by
   exact Jj (by rw[aE hm',hc])))
 ·refine⟨.non,_,I.lset (its':=its.eraseIdx (ns.idxOf y)) hH e ?_ ?_ ?_,rfl,q⟩
  ·have h1:ns.idxOf y < its.length:=by omega
   simp[Array.eraseIdxIfInBounds,h1]
  ·rw[Cf]
   exact sA (IntsAre.eraseIdx hi _)
  ·rw[aA]
   exact cV (List.length_erase_le) (by simpa using z)
end
section
variable {prog:bS}{w:cY}{A:dZ}{E:aC->aI->Prop}{s:aI}
theorem Nb:typeLookup (.type "list_reverseiterator") "__len__"=pure none:=by rw[typeLookup_type,N1];kernel_rfl
theorem Xe:typeLookup (.type "list_reverseiterator") "__length_hint__"=pure (some (.builtin "list_reverseiterator.__length_hint__")):=by rw[typeLookup_type,N1];kernel_rfl
theorem Ya {it l:Addr}{i:Int}{Q:Bool->aI->Prop}(hit:s.heap.IsRevIter it l i)(h:Q false s):wpAny (model prog w) A (TC (.ref it)) Q E s:=by
 unfold TC
 refine aD (Rb hit.typeIs Nb ?_)
 show wpAny _ _ (specialOf (dQ it) (hU "__length_hint__") >>= _) _ _ _
 refine aD (Rb hit.typeIs Xe ?_)
 generalize hid:("list_reverseiterator.__length_hint__":String)=id0
 wp_delta
 rw[show splitId id0=some ("list_reverseiterator","__length_hint__") from by subst hid;decide+kernel]
 subst hid
 refine aD (Kt (T:="list_reverseiterator") (b:=true) hit.typeIs (by rw[isSubtype_type];kernel_rfl) ?_)
 refine RE (λhab=>absurd hab (by decide)) (λ_=> ?_)
 refine RE (λ_=> ?_) (λhab=>absurd (by decide+kernel) hab)
 refine RE (λhab=>absurd hab (by decide+kernel)) (λ_=> ?_)
 exact bC h
theorem Nd {R:Vc->aI->Prop}{it l:Addr}{items:Array aC}(hh:A.handled=none)(hit:s.heap.IsRevIter it l ((items.size:Int) - 1))(hl:s.heap.IsList l items)(hlen:items.size<=sizeLine)(S:Addr)(res:aC)(c₀:Nat)(hS:s.heap.get? S=some { cls:=.type "list",data:=.seq #[] c₀ })(hSl:S≠l)
  (hR:∀h' tk acc' c',(∀b o,b≠S->b≠it->s.heap.get? b=some o->h'.get? b=some o)->h'.get? S=some { cls:=.type "list",dict:=none,data:=.seq acc' c',slots:= #[] }->
   du (λi v=>items[items.size - 1 - i]? =some v) acc' items.size->R (.ok (.ret res)) { s with heap:=h',toks:=tk }):
  wpAny (model prog w) A.in1 (nV (.ref S) (.ref it) res)
   (λfin s'=>match fin with | .done f=>R (.ok f) s' | .again c'=>c'.quiet=true/\codeAny (model prog w) A c' R s') (λe s'=>R (.error e) s') s:=by
 have hSI:S≠it:=λe=>by
  obtain⟨o,ho,hc,_⟩:=hit
  rw[e,ho] at hS
  cases hS
  exact absurd (mK hc) (by decide)
 have hne:l≠it:=λe=>by
  obtain⟨o,ho,hc,_⟩:=hit
  obtain⟨o',ho',hc',_⟩:=hl
  rw[e,ho] at ho'
  cases ho'
  rw[hc] at hc'
  exact absurd (mK hc') (by decide)
 have hSf:S ∉ [it,l]:=λhm=>by
  rcases bN.mp hm with e | hm
  ·exact hSI e
  ·exact hSl (cP.mp hm)
 have W:=(Walks.listRev (prog:=prog) (w:=w) (A:=A.in1) hh it l hne items).toS
 unfold nV
 refine aD (wpAny_typeOf hit.typeIs ?_)
 have h1:YN (.ref S) (.ref it)=false:=by simp[YN,hSI]
 have h2:(oH "list_reverseiterator"==oH "list")=false:=by decide
 have h3:(oH "list_reverseiterator"==oH "tuple")=false:=by decide
 simp only[h1,h2,h3,Bool.or_false,eO,if_false]
 refine aD (wpAny_pyIter_revIter hit ?_)
 refine aD (lS (Ya hit ?_))
 refine RE (λhab=>absurd hab (by decide+kernel)) (λ_=> ?_)
 refine bC ⟨pW F.plain_extend_loop _,codeAny_extend_loopS W hlen S hSf _ items.size 0 _ _ _ (Nat.sub_zero _) (cA _) ⟨cA _,?_,hl⟩ hS (ItemsOf.nil _) λs' acc' c' hm hS' hacc=> ?_⟩
 ·have e1:(items.size:Int) - 1 - ((0:Nat):Int)=(items.size:Int) - 1:=by omega
  rw[e1];exact hit
 ·rw[Moved.eq_with hm]
  refine hR s'.heap s'.toks acc' c' (λb o hb hb2 e=>hm.heap b o (λhmem=> ?_) e) hS' hacc
  rcases bN.mp hmem with e' | hmem
  ·exact hb e'
  ·exact hb2 (cP.mp hmem)
theorem ZU {R:Vc->aI->Prop}{it l:Addr}{items:Array aC}(hh:A.handled=none)(hit:s.heap.IsRevIter it l ((items.size:Int) - 1))(hl:s.heap.IsList l items)(hlen:items.size<=sizeLine)(S:Addr)(hS:s.heap.get? S=some { cls:=.type "list",data:=.seq #[] })(hSl:S≠l)
  (hR:∀h' tk acc' c',(∀b o,b≠S->b≠it->s.heap.get? b=some o->h'.get? b=some o)->h'.get? S=some { cls:=.type "list",dict:=none,data:=.seq acc' c',slots:= #[] }->
   du (λi v=>items[items.size - 1 - i]? =some v) acc' items.size->R (.ok (.ret .none)) { s with heap:=h',toks:=tk }):
  wpAny (model prog w) A.in1 (Builtin.«list.__init__» ⟨[.ref S,.ref it],[]⟩)
   (λfin s'=>match fin with | .done f=>R (.ok f) s' | .again c'=>c'.quiet=true/\codeAny (model prog w) A c' R s') (λe s'=>R (.error e) s') s:=by
 show wpAny _ A.in1 (do let old <-Ae (.ref S);Builtin.List.listUpdate (.ref S) (λ_=> #[]);letGo old.toList.reverse;nV (.ref S) (.ref it) .none) _ _ s
 refine aD ?_
 unfold Ae
 refine aD (kO hS rfl (bC ?_))
 show wpAny _ A.in1 (updateSeq S (λ_=> #[]) >>= λ_=>letGo (#[]:Array aC).toList.reverse >>= λ_=>nV (.ref S) (.ref it) .none) _ _ s
 refine aD (RD hS rfl ?_)
 have hS2:=lP (eJ (λ_=>(#[]:Array aC))) hS rfl
 have oth:∀b o,b≠S->s.heap.get? b=some o->(s.heap.update S (eJ (λ_=>(#[]:Array aC)))).get? b=some o:=
  λb o hb e=>(gL _ _ (fE hb)).trans e
 have hSI:it≠S:=λe=>by
  obtain⟨o,ho,hc,_⟩:=hit
  rw[e,hS] at ho
  cases ho
  exact absurd (mK hc) (by decide)
 refine aD (vR ?_)
 refine Nd (s:={ s with heap:=_ }) hh (hit.at λo e=>oth _ _ hSI e) (hl.at λo e=>oth _ _ (fE hSl) e) hlen S .none _ hS2 hSl λh' tk acc' c' hk hS' hacc=> ?_
 exact hR h' tk acc' c' (λb o hb hb2 e=>hk b o hb hb2 (oth b o hb e)) hS' hacc
theorem ZZ {it l:Addr}{items:Array aC}{Q:aC->aI->Prop}(hh:A.handled=none)(hit:s.heap.IsRevIter it l ((items.size:Int) - 1))(hl:s.heap.IsList l items)(hlen:items.size<=sizeLine)
  (hQ:∀h' tk acc' c',(∀b o,b≠s.heap.objs.size->b≠it->s.heap.get? b=some o->h'.get? b=some o)->h'.get? s.heap.objs.size=some { cls:=.type "list",dict:=none,data:=.seq acc' c',slots:= #[] }->
   du (λi v=>items[items.size - 1 - i]? =some v) acc' items.size->Q (.ref s.heap.objs.size) { s with heap:=h',toks:=tk }):wpAny (model prog w) A (call (.type "list") [.ref it]) Q E s:=by
 have hlt:∀{b o},s.heap.get? b=some o->b≠s.heap.objs.size:=λe=>cJ (bD e)
 refine callType_codes (Q₁:=λobj s₁=>obj=.ref s.heap.objs.size/\s₁={ s with heap:=s.heap.push { cls:=.type "list",data:=.seq #[] } }) F.called_list (F.typeCall_list_1 _) F.entry_list_init
  (code_list_new _ ⟨rfl,rfl⟩) λobj s₁ h₁=> ?_
 obtain⟨rfl,rfl⟩:=h₁
 have hS:(s.heap.push { cls:=.type "list",data:=.seq #[] }).get? s.heap.objs.size=some { cls:=.type "list",data:=.seq #[] }:=bF _ rfl
 have hSl:s.heap.objs.size≠l:=let ⟨_,e,_⟩:=hl;(hlt e).symm
 refine⟨⟨_,hS,rfl⟩,F.args_list_init_2 _ _,ZU (A:=A.in1) (s:={ s with heap:=_ }) hh (hit.at λo e=>aG _ e) (hl.at λo e=>aG _ e) hlen _ hS hSl λh' tk acc' c' hk hS' hacc=> ?_⟩
 exact⟨rfl,hQ h' tk acc' c' (λb o hb hb2 e=>hk b o hb hb2 (aG _ e)) hS' hacc⟩
end
section
variable {X:Cx}
def x8 (K:PySem.W.Frag)(ta:TA):TE:=λσ H Q=>ta σ H λvs H1=>∃a xs,vs=[.ref a]/\dX K H1 a xs/\∀p,H1 p=none->Q (.ref p) (L2.upd H1 p (.lst xs.reverse))
theorem Wg {xs:List V}{its:List aC}(r:eG xs its){acc:Array aC}(h:du (λi v=>its.toArray[its.toArray.size - 1 - i]? =some v) acc its.toArray.size):acc=its.reverse.toArray:=by
 apply Array.ext
 ·rw[h.1];simp
 ·intro i h1 h2
  have e:its.toArray[its.toArray.size - 1 - i]? =some acc[i]:=h.2 i acc[i] (by simp[h1])
  have hi:i < its.length:=by rw[h.1] at h1;simpa using h1
  have:its.toArray[its.toArray.size - 1 - i]? =some (its.reverse.toArray[i]):=by
   simp only[bK,List.getElem?_toArray,List.getElem_toArray,List.getElem_reverse]
   rw[aE (by omega)]
  rw[this] at e
  exact(cX e).symm
theorem eG.rev:∀{xs:List V} {us:List aC},eG xs us->eG xs.reverse us.reverse
 | _,_,.nil=>.nil
 | _,_,.cons r t=>by
  rw[YT,YT]
  exact(eG.rev t).append (.cons r .nil)
theorem Mj {e:Expr}{ta:TA}{p p2 pos pos2:Pos}(hc:X.calm=true)(hg:Gl X "list")(hm:X.mg "list"=none)(hg2:Gl X "reversed")(hm2:X.mg "reversed"=none)(ha:PA X [e] ta)
  (hs:starEach [.Call (.Name "reversed" p2) [e] [] pos2] X.env=[(false,eval (.Call (.Name "reversed" p2) [e] [] pos2) X.env)]:=by rfl) (hs2:starEach [e] X.env=[(false,eval e X.env)]:=by rfl):
  PE X (.Call (.Name "list" p) [.Call (.Name "reversed" p2) [e] [] pos2] [] pos) (x8 X.K ta):=by
 intro pins s σ H Q I h
 refine P5 (xO I hg hm boot_list (eS ?_ hs rfl))
 rw[hs]
 show wpAny _ _ (spliced ((false,eval (.Call (.Name "reversed" p2) [e] [] pos2) X.env)::[])) _ _ s
 refine zW ?_
 refine P5 (xO I hg2 hm2 YD (eS (kC (ha pos2 pins s σ H _ I h) λus s1 ⟨vs,H1,I1,r1,q1⟩=> ?_) hs2 rfl))
 obtain⟨a,xs,e1,hq,q⟩:=q1
 subst e1
 rw[eG.ref1 r1]
 obtain⟨its,rv,pl,hz⟩:=I1.list hq
 have hlen:=rv.length
 refine call_reversed_list pl.isList (UQ ?_)
 have hpl:(s1.heap.push (revObj a ((its.toArray.size:Int) - 1))).IsList a its.toArray:=pl.isList.push _
 refine ZZ (s:={ s1 with heap:=_ }) (it:=s1.heap.objs.size) (I1.ok.hd hc) ⟨_,bF _ rfl,rfl,rfl⟩ hpl (by simp only[bK];omega) λh' tk acc' c' hk hS' hacc=> ?_
 have ea:=Wg rv hacc
 subst ea
 have hsz:(s1.heap.push (revObj a ((its.toArray.size:Int) - 1))).objs.size=s1.heap.objs.size+1:=dE _ _
 have hS'':h'.get? (s1.heap.objs.size+1)=some { cls:=.type "list",dict:=none,data:=.seq its.reverse.toArray c',slots:= #[] }:=by
  have z:=hS'
  rw[show({ s1 with heap:=s1.heap.push (revObj a ((its.toArray.size:Int) - 1)) }:aI).heap.objs.size=s1.heap.objs.size+1 from hsz] at z
  exact z
 have hk2:∀b o,s1.heap.get? b=some o->h'.get? b=some o:=λb o eb=>by
  have hlt:=bD eb
  refine hk b o ?_ (cJ hlt) (aG _ eb)
  show b≠(s1.heap.push (revObj a ((its.toArray.size:Int) - 1))).objs.size
  rw[hsz]
  exact cJ (vC hlt)
 refine⟨.ref (s1.heap.objs.size+1),L2.upd H1 (s1.heap.objs.size+1) (.lst xs.reverse),?_,?_,q _ (I1.hok.fresh (xZ _))⟩
 ·exact I1.laid hk2 (xZ _) ⟨by rw[rX];exact hz,its.reverse,c',eG.rev rv,hS''⟩
 ·show dQ _=dQ _
  rw[<-hsz]
end
section
variable {X:Cx}{K:PySem.W.Frag}
theorem Xs (h:X.K=K):Z6 X (R0 K):=h ▸ qE
theorem WL (h:X.K=K):PD X (compareOp .In) (Y2 K false):=h ▸ HV
theorem i8 (h:X.K=K)(hu:X.A.units+64 < cLine):PD X (compareOp .NotEq) (e8 K):=h ▸ Ef hu
theorem KG (h:X.K=K):ED X (.builtin "len") (λxs H Q=>∃p ys,xs=[.ref p]/\(dX K H p ys\/KH K H p ys)/\Q (.int ys.length) H):=h ▸ eR
theorem sM {e:Expr}{f:Str}{pos:Pos}{ta:TE}(h:X.K=K)(he:PE X e ta)(hb:attributeBase e f X.env (eval e X.env)=eval e X.env):PE X (.Attribute e f pos) (C4 K ta f):=h ▸ bY he hb
end
section
variable {t u:TS}{te ta tb tc:TE}{a b:TT}{ts:TA}{r r':R2}{v:V}{o:Option V}{σ:L2.St}{H:Hp}{D:DA}{Q:VK}{QB:Bool->Hp->Prop}{QL:List V->Hp->Prop}{QS:L2.St->Hp->Prop}{i n:Nat}{x y:Int}{c:Bool}{p:Addr}
theorem ax:Zy te D σ H=te σ H D.rt:=rfl
theorem D6:Lv r r' ta tb tc σ H Q=ta σ H λx H1=>tb σ H1 λy H2=>r x y H2 λz H3=>Nt z λk=>if k=true then tc σ H3 λw' H4=>r' y w' H4 Q else Q (.bl false) H3:=rfl
theorem qC:tC v σ H Q=Q v H:=rfl
theorem S8:IJ 0 (some v::σ) H Q=Q v H:=rfl
theorem S7:IJ (i+1) (o::σ) H Q=IJ i σ H Q:=rfl
theorem qI0 {g:Int->Int->V}:Wk g (.int x) (.int y) H Q=Q (g x y) H:=rfl
theorem qI {C:Int->Int->Prop}{g:Int->Int->V}:rI C g (.int x) (.int y) H Q=(C x y/\Q (g x y) H):=rfl
theorem qU {g:Int->V}:rU g (.int x) H Q=Q (g x) H:=rfl
theorem qOp:x4 r ta tb σ H Q=ta σ H λx H1=>tb σ H1 λy H2=>r x y H2 Q:=rfl
theorem qUn {r:V->Hp->VK->Prop}:tUn r ta σ H Q=ta σ H λx H1=>r x H1 Q:=rfl
theorem au:Sb t u D σ H=t { D with nx:=u D } σ H:=rfl
theorem T3:Aq D σ H=D.nx σ H:=rfl
theorem bj {g:TG}:Vw te g D σ H=te σ H λx H1=>g x σ H1 D.nx:=rfl
theorem D4:GU 0 v (o::σ) H QS=QS (some v::σ) H:=rfl
theorem D3:GU (i+1) v (o::σ) H QS=GU i v σ H λσ' H'=>QS (o::σ') H':=rfl
theorem T5:Lr a t u D σ H=a σ H λb H1=>if b=true then t D σ H1 else u D σ H1:=rfl
theorem S9:Ow te σ H QB=te σ H λx H1=>Nt x λk=>QB k H1:=rfl
theorem qB:tB te σ H QB=te σ H λx H1=>Nt x λk=>QB k H1:=rfl
theorem bq:Q4 a b σ H QB=a σ H λc H1=>if c=true then b σ H1 QB else QB false H1:=rfl
theorem qOr:tOr a b σ H QB=a σ H λc H1=>if c=true then QB true H1 else b σ H1 QB:=rfl
theorem az:Q2 a σ H QB=a σ H λc H1=>QB (!c) H1:=rfl
theorem T9:y3 ta tb σ H Q=ta σ H λx H1=>Nt x λc=>if c=true then tb σ H1 Q else Q (.bl false) H1:=rfl
theorem ay:Q1 ta tb σ H Q=ta σ H λx H1=>Nt x λc=>if c=true then Q (.bl true) H1 else tb σ H1 Q:=rfl
theorem T1:x5 ta σ H Q=ta σ H λx H1=>Nt x λc=>Q (.bl (!c)) H1:=rfl
theorem qIf:tIf a ta tb σ H Q=a σ H λc H1=>if c=true then ta σ H1 Q else tb σ H1 Q:=rfl
theorem qCB {r:List V->Hp->VK->Prop}:Z8 r ts σ H Q=ts σ H λvs H1=>r vs H1 Q:=rfl
theorem T7:Vu te ts σ H QL=te σ H λx H1=>ts σ H1 λxs H2=>QL (x::xs) H2:=rfl
theorem ba:ZI σ H QL=QL [] H:=rfl
theorem T8 {sp:Sp}{dvs:List V}{E:XK}:He sp dvs E ts σ H Q=ts σ H λvs H1=>sp (vs++dvs) H1 Q E:=rfl
theorem T4 {C:Addr}{m:Str}{sp:Sp}{dvs:List V}{E:XK}:Hc C m sp dvs E ta ts σ H Q=ta σ H λx H1=>p0 x λa=>∃dx fs,H1 a=some (.ins C dx fs)/\fs.lookup m=none/\ts σ H1 λvs H2=>sp (x::(vs++dvs)) H2 Q E:=rfl
theorem T6:x9 te D σ H=te σ H λ_ H1=>D.nx σ H1:=rfl
theorem qBM {K:PySem.W.Frag}{T:String}{r:V->List V->Hp->VK->Prop}:Z9 K T r te ts σ H Q=te σ H λx H1=>Z7 K T x H1/\ts σ H1 λxs H2=>r x xs H2 Q:=rfl
theorem aq:Zx σ H QB=QB true H:=rfl
theorem eY {K:PySem.W.Frag}{f:Str}:C4 K ta f σ H Q=ta σ H λx H1=>p0 x λa=>∃C dx fs v,H1 a=some (.ins C dx fs)/\Rn K C/\fP K C f/\fs.lookup f=some v/\Q v H1:=rfl
theorem Be {K:PySem.W.Frag}{f:Str}:d8 K ta tb f D σ H=tb σ H λy H1=>ta σ H1 λx H2=>p0 x λa=>∃C dx fs,H2 a=some (.ins C dx fs)/\Rn K C/\fP K C f/\fs.length < 1000/\D.nx σ (L2.upd H2 a (.ins C dx (fL f y fs))):=rfl
theorem rQ:C3 ts σ H Q=ts σ H λxs H1=>xs.length<=sizeLine/\∀p,H1 p=none->Q (.ref p) (L2.upd H1 p (.lst xs)):=rfl
theorem f7:Q0 ts σ H Q=ts σ H λxs H1=>xs.length<=sizeLine/\∀p,H1 p=none->Q (.ref p) (L2.upd H1 p (.tup xs)):=rfl
theorem AQ {C:Addr}{sp:Sp}{dvs:List V}{E:XK}:Hd C sp dvs E ts σ H Q=ts σ H λvs H1=>∀x dx,H1 x=none->H1 dx=none->dx≠x->sp (.ref x::(vs++dvs)) (L2.upd (L2.upd H1 dx (.own x)) x (.ins C dx [])) (λv H2=>v=.non/\Q (.ref x) H2) E:=rfl
theorem R7 {k:V->Prop}:Y3 (some (some v)) k=k v:=rfl
theorem R9 {k:Int->Prop}:A3 (.int x) k=k x:=rfl
theorem S6 {k:Bool->Prop}:Nt (.bl c) k=k c:=rfl
theorem R8 {k:Addr->Prop}:p0 (.ref p) k=k p:=rfl
theorem Kh {k:Bool->Prop}(h:k c):Nt (.bl c) k:=h
theorem asi {k:Int->Prop}(h:k x):A3 (.int x) k:=h
theorem asr {k:Addr->Prop}(h:k p):p0 (.ref p) k:=h
theorem qls {x:Str}{l:List Str}:(x::l).length=l.length+1:=rfl
theorem qlv {l:List V}:(v::l).length=l.length+1:=rfl
theorem qlS:([]:List Str).length=0:=rfl
theorem qlV:([]:List V).length=0:=rfl
theorem qco {l l':L2.St}:(o::l)++l'=o::(l++l'):=rfl
theorem qno {l:L2.St}:[]++l=l:=rfl
theorem qcv {l l':List V}:(v::l)++l'=v::(l++l'):=rfl
theorem qnv {l:List V}:[]++l=l:=rfl
theorem qs0 {o':Option V}:(o::σ).set 0 o'=o'::σ:=rfl
theorem qsS {o':Option V}:(o::σ).set (i+1) o'=o::σ.set i o':=rfl
theorem qg0:(o::σ)[0]? =some o:=rfl
theorem qgS:(o::σ)[i+1]? =σ[i]? :=rfl
theorem bg:ak (.int x) (.int y) H Q=Q (.bl (decide (x=y))) H:=propext ⟨λh=>by have:=h.2;simpa only[V.int.injEq] using this,λh=>⟨rfl,by simpa only[V.int.injEq] using h⟩⟩
theorem bc:ag (.int x) (.int y) H Q=Q (.bl (!decide (x=y))) H:=propext ⟨λh=>by have:=h.2;simpa only[V.int.injEq] using this,λh=>⟨rfl,by simpa only[V.int.injEq] using h⟩⟩
theorem bp:Dz (.ref p) [v] H Q=∃xs,H p=some (.lst xs)/\xs.length < sizeLine/\Q .non (L2.upd H p (.lst (xs++[v]))):=propext ⟨λ⟨_,xs,_,e,e',h⟩=>by cases e;cases e';exact⟨xs,h⟩,λ⟨xs,h⟩=>⟨p,xs,v,rfl,rfl,h⟩⟩
end
local macro_rules
 | `(tactic| simp_arith)=> `(tactic| simp_arith only[↓T5])
 | `(tactic| simp_arith [$xs,*])=> `(tactic| simp_arith only[↓T5, $xs,*])
 | `(tactic| simp_arith only)=> `(tactic| simp_arith only[eq_self])
 | `(tactic| simp_arith only[$xs,*])=> `(tactic| ((try simp only[L2.start,aJ,mL,qls,qlv,qlS,qlV,cU,qco,qno]);try simp only[↓ax, ↓D6, ↓qC, ↓S8, ↓S7, ↓qI0, ↓qI, ↓qU, ↓qOp, ↓qUn, ↓au, ↓T3, ↓bj, ↓D4, ↓D3, ↓S9, ↓qB, ↓bq, ↓qOr, ↓az, ↓T9, ↓ay, ↓T1, ↓qIf, ↓qCB, ↓T7, ↓ba, ↓T8, ↓T4, ↓T6, ↓qBM, ↓aq, ↓R7, ↓R9, ↓S6, ↓R8, ↓bg, ↓bc, ↓bp,IJ,GU,Wk,rI,rU,ak,ag,d5,d6,Dz,cw,FP,jS,L2.start,R7,R9,S6,R8,qls,qlv,qlS,qlV,qco,qno,qcv,qnv,qs0,qsS,qg0,qgS,V.int.injEq,V.bl.injEq,V.ref.injEq,true_and,Bool.not_eq_true',decide_eq_true_eq,decide_eq_false_iff_not,and_true,and_assoc,eO,and_self,List.cons.injEq,yD,aJ,mL,cU,exists_eq_left',exists_eq_left,exists_and_left,eq_self,if_true,if_false, $xs,*]))
abbrev ff (X:Cx)(A:dZ)(s:aI)(H:Hp)(NL:List Str)(env:Env):Cx:={ X with A:=A.deeper env,N:=NL,s_0:=s,H_0:=H,env:=env,outer:=X.stack,stack:=env::X.stack,ex:=[],fn:=λ_=>false,calm:=true,pn:=[],xe:=λ_ _=>False }
structure Rm (N:List Str)(sc scope:Scope)(x y1 y2:Str)(i1 i2:Nat):Prop where
 kind:scope.kind=.function
 co:scope.isCoroutine=false
 gen:scope.isGenerator=false
 noc:∀y∈scope.names,y.2≠ .cell
 lx:scope.names.lookup x=some .local
 l1:scope.names.lookup y1=some .free
 l2:scope.names.lookup y2=some .free
 fr:∀y∈scope.names,y.2=.free->sc.names.lookup y.1=some .cell
 n1:N[i1]? =some y1
 n2:N[i2]? =some y2
section
variable {X:Cx}{pins:List (Addr×Obj)}{σ:L2.St}{H:Hp}{s:aI}
theorem Sx {A:dZ}{scope:Scope}{x y1 y2:Str}{i1 i2:Nat}{qual:Str}{f:Addr}{cd u:aC}{xv v1 v2:V}{h1:Heap}{tk:Nat}(I:Inv X pins σ H s)(S:Rm X.N X.env.scope scope x y1 y2 i1 i2)(hA:A.frames=some X.stack)(hd:A.handled=none)
  (e1:σ[i1]? =some (some v1)) (e2:σ[i2]? =some (some v2)) (rx:RelV xv u) (hns:h1.Ns s.heap.objs.size (λz=>[(x,u)].reverse.lookup z)) (hk:∀b o,s.heap.get? b=some o->h1.get? b=some o):
  Inv (ff X A s H [x,y1,y2] (PySem.W.envX qual scope s.heap.objs.size f cd (fD X.env.cells scope.names []))) [] [some xv,some v1,some v2] H { s with heap:=h1,toks:=tk }:=by
 have hfree:∀y∈scope.names,y.2=.free->∃c,X.env.cells.lookup y.1=some c:=λy hy e=>I.ok.has _ (.inl (S.fr y hy e))
 have cm:∀{y c},(fD X.env.cells scope.names []).lookup y=some c->X.env.cells.lookup y=some c/\c < s.heap.objs.size:=λ{y c} hm=>by
  rcases uN (PySem.mem_of_lookup hm) with hm | ⟨h1,rfl⟩
  ·cases hm
  ·obtain⟨c,hc⟩:=hfree _ h1 rfl
   rw[hc]
   obtain⟨w,z⟩:=I.cell _ _ hc
   exact⟨rfl,z.lt⟩
 have look:∀{y},scope.names.lookup y=some .free->∃c,(fD X.env.cells scope.names []).lookup y=some c:=λ{y} hl=>
  CF (zB (cells:=X.env.cells) (acc:=[]) (PySem.mem_of_lookup hl))
 have cap:∀{y i v},scope.names.lookup y=some .free->X.N[i]? =some y->σ[i]? =some (some v)->∃u0,L2.RelV v u0/\X3 (PySem.W.envX qual scope s.heap.objs.size f cd (fD X.env.cells scope.names [])) h1 (λz=>[(x,u)].reverse.lookup z) y u0:=λ{y i v} hl hi hs=>by
  have hc:X.env.scope.names.lookup y=some .cell:=S.fr _ (PySem.mem_of_lookup hl) rfl
  obtain⟨m,hn,hlk⟩:=I.loc
  obtain⟨u',r,q⟩:=hlk i y v hi hs (.inr (.inl hc))
  refine⟨u',r,.inr ⟨.inr hl,?_⟩⟩
  obtain⟨c,z1⟩:=look hl
  refine⟨c,z1,?_⟩
  rcases q with⟨k,_⟩ | ⟨_,c',e',z⟩
  ·have k':X.env.scope.names.lookup y=some .local:=k
   rw[hc] at k';cases k'
  ·rw[(cm z1).1] at e';cases e'
   exact z.keeps hk
 have noA:∀b:Addr,b ∉ ([]:List Addr):=λb z=>absurd z (by simp)
 refine⟨⟨I.ok.mod,S.kind,rfl,rfl,aU _,λy z c h1 h2=> ?_,λy hy=> ?_,λy c z=>absurd z (by simp),λ_=>hd,Ul hA,.inr ⟨rfl,rfl⟩,λb z=>absurd z (noA b),I.bs,cV I.ok.bsz I.sz,λb _ _=>noA b,λb z=>absurd z (noA b),I.stack,I.stkFree⟩,
  rfl,I.bare,Un.kept hk,⟨_,hns,λi y v q1 q2 q3=> ?_⟩,λy c h=> ?_,I.hok.fresh (aU _),λy c h=> ?_,λp hp=>absurd (show p∈([]:List (Addr×Obj)) from hp) (by simp),I.hok.kept hk,rfl⟩
 ·exact I.ok.inj y z c (cm h1).1 (cm h2).1
 ·have hy:scope.names.lookup y=some .cell\/scope.names.lookup y=some .free:=hy
  rcases hy with hy | hy
  ·exact absurd rfl (S.noc _ (PySem.mem_of_lookup hy))
  ·exact look hy
 ·match i,q1,q2 with
  | 0,q1,q2=>
   cases q1;cases q2
   refine⟨u,rx,.inl ⟨S.lx,?_⟩⟩
   simp
  | 1,q1,q2=>cases q1;cases q2;exact cap S.l1 S.n1 e1
  | 2,q1,q2=>cases q1;cases q2;exact cap S.l2 S.n2 e2
  | k+3,q1,q2=>exact nomatch q1
 ·obtain⟨w,z⟩:=I.cell y c (cm h).1
  exact⟨w,z.keeps hk⟩
 ·exact I.freeC y c (cm h).1
theorem Xn {A:dZ}{scope:Scope}{x y1 y2:Str}{i1 i2:Nat}{name qual:Str}{params:Arguments}{body:Expr}{pm ctv:aC}{c' f:Addr}{u:aC}{xv v1 v2:V}{te:TE}{Q:VK}(I:Inv X pins σ H s)(S:Rm X.N X.env.scope scope x y1 y2 i1 i2)(hA:A.frames=some X.stack)(hd:A.handled=none)
  (hroom:A.depth < recursionLimit) (e1:σ[i1]? =some (some v1)) (e2:σ[i2]? =some (some v2)) (rx:RelV xv u)
  (ho:s.heap.get? f=some (PySem.W.kla_obj name qual params body scope (fD X.env.cells scope.names []) pm c' ctv)) (hcd:s.heap.CodeRec (.ref c') qual)
  (hbind:bindArgs (PySem.W.kla_fn name qual params body scope (fD X.env.cells scope.names []) pm (.ref c') ctv) ⟨[u],[]⟩=pure [(x,u)])
  (he:PE (ff X A s H [x,y1,y2] (PySem.W.envX qual scope s.heap.objs.size f (.ref c') (fD X.env.cells scope.names []))) body te) (q:te [some xv,some v1,some v2] H Q):
  wpAny (model X.prog X.w) A (call (.ref f) [u]) (EP X pins σ Q) (λ_ _=>False) s:=by
 refine Y5 (PySem.W.kla_callFunE hroom ho rfl S.co S.gen rfl hcd ?_)
 rw[hbind]
 refine bC (wpAny_newFunctionEnv S.noc (λy hy=> ?_) (λh1 hns hsb=>⟨I.nolimit.fresh _ hsb,?_⟩) S.kind)
 ·have:y=(x,u):=by simpa using hy
  rw[this];exact S.lx
 have hk:∀b o,s.heap.get? b=some o->h1.get? b=some o:=λb o e=>hsb.extBut b o (cJ (bD e)) (aG _ e)
 have J:=Sx (tk:=s.toks+[(x,u)].length) (qual:=qual) (f:=f) (cd:=.ref c') I S hA hd e1 e2 rx hns hk
 refine PySem.W.kla_codeExpr (jD (he [] _ _ H _ J q) (λv s' hq=> ?_) λe s' hx=>fS hx)
 obtain⟨v',H',J',r',q'⟩:=hq
 exact I.after ⟨v',H',J'.os,J'.bare,J'.base,J'.hok,r',q'⟩
theorem Inv.taken {t':Nat}{ch:List Addr}{T:Addr}{ob:HO}{h':Heap}(I:Inv X pins σ H s)(k:∀b o,b≠X.env.locals->b ∉ ch->s.heap.get? b=some o->h'.get? b=some o)(hf:∀b∈ch,MC X pins H b)(hT:T∈ch)
  (ns:∀m,s.heap.Ns X.env.locals m->h'.Ns X.env.locals m) (new:kH X.prog X.w (L2.upd H T ob) h' T ob):Inv X pins σ (L2.upd H T ob) { s with heap:=h',toks:=t' }:=by
 have hn:H T=none:=(hf T hT).1
 have nit:∀b u,H b=some u->b ∉ ch:=λb u e z=>by
  have q:=(hf b z).1
  rw[q] at e;cases e
 have nL:∀b u,H b=some u->b≠X.env.locals:=λb u e z=>by
  rw[z,I.free] at e;cases e
 have nT:∀b u,H b=some u->b≠T:=λb u e z=>by
  rw[z,hn] at e;cases e
 refine I.step (g':=s.gens) (d':=s.drawn) (ch:=ch) (λb hb=>⟨(hf b hb).2.2.2.1,(hf b hb).2.1,(hf b hb).2.2.2.2.1,(hf b hb).2.2.2.2.2⟩) (λb o hL _ hc e _=>k b o hL hc e) (λb o hL _ hc e _=>⟨o.slots,k b o hL hc e⟩)
  (λb o hc _ n=> ?_) (λb o hc e=> ?_) (λb xs e=> ?_) (λb o u e=> ?_) (λb ps e=>⟨#[],?_⟩) ns (λb u e=> ?_) I.bare
 ·rw[aM (λz=>hc (by rw[z];exact hT))];exact n
 ·by_cases hb:b=X.env.locals
  ·obtain⟨m,hn,_⟩:=I.loc
   obtain⟨o',_,_,z,_⟩:=ns m hn
   exact⟨o',by rw[hb];exact z⟩
  ·exact⟨o,k b o hb hc e⟩
 ·rw[aM (nT b _ e)];exact e
 ·rw[aM (nT b _ e)];exact e
 ·rw[aM (nT b _ e),e];simp
 ·by_cases hb:b=T
  ·subst hb
   rw[aK] at e;cases e;exact new
  ·rw[aM hb] at e
   refine(I.hok b u e).stay (λc v hc q=> ?_) (λc q=>by rw[aM (nT c _ q)];exact q) λc xs q=>by rw[aM (nT c _ q)];exact q
   rcases hc with rfl | hc
   ·exact k c v (nL c _ e) (nit c _ e) q
   ·exact k c v (nL c _ hc) (nit c _ hc) q
def F6 (h:Heap)(L a b:Addr):List (Addr×Obj):=(Att.ledger h L a).filter λp=>decide (p.1≠b)
theorem NZ {h:Heap}{L a b c:Addr}{o:Obj}:(c,o)∈F6 h L a b↔c≠L/\c≠a/\c≠b/\h.get? c=some o:=by
 unfold F6
 rw[bO,Att.mem_ledger]
 simp only[decide_eq_true_eq]
 exact⟨λ⟨⟨h1,h2,h3⟩,h4⟩=>⟨h1,h2,h4,h3⟩,λ⟨h1,h2,h4,h3⟩=>⟨⟨h1,h2,h3⟩,h4⟩⟩
def OS (g:Int->Int)(ns ns':List Int):Prop:=ns'.Perm ns/\ns'.Pairwise (λx y=>g x<=g y)/\∀z,ns'.filter (λx=>g x==z)=ns.filter (λx=>g x==z)
theorem Hl {g:Int->Int}{ns:List Int}{vs out:List aC}(hi:IntsAre vs ns)(ko:KskOutSt false (ns.map g) vs out):∃ns',IntsAre out ns'/\OS g ns ns':=by
 obtain⟨ps,hp,ho,hs,hst⟩:=ko
 have hlen:=hi.length
 have hrel:∀p,p∈(ns.map g).zip vs->p.1=g (numOf p.2)/\p.2∈vs:=by
  rw[<-hi.nums,bR,B2]
  intro p hp
  obtain⟨⟨u,v⟩,hq,rfl⟩:=bE.mp hp
  have h1:u=v/\u∈vs:=mem_zip_self hq
  refine⟨?_,?_⟩
  ·show g (numOf u)=g (numOf v)
   rw[h1.1]
  ·show v∈vs
   rw[<-h1.1]
   exact h1.2
 have hI:IntsAre (ps.map YO) ((ps.map YO).map numOf):=intsAre_map _ λv hv=>by
  obtain⟨p,hp',rfl⟩:=bE.mp hv
  exact hi.all _ (hrel p (hp.mem_iff.mp hp')).2
 have hP:((ps.map YO).map numOf).Perm ns:=by
  have h1:=(hp.map YO).map numOf
  rw[O2 (by rw[aA];omega),hi.nums] at h1
  exact h1
 refine⟨_,by rw[ho];exact hI,hP,?_,λz=> ?_⟩
 ·rw[bR,uS]
  refine hs.imp_of_mem λ{a b} ha hb h=> ?_
  have e1:=(hrel a (hp.mem_iff.mp ha)).1
  have e2:=(hrel b (hp.mem_iff.mp hb)).1
  have h':a.1<=b.1:=h
  rw[e1,e2] at h'
  exact h'
 ·have fl:∀l:List (Int×aC),(∀p∈l,p.1=g (numOf p.2))->((l.map YO).map numOf).filter (λx=>g x==z)=((l.filter λp=>p.1==z).map YO).map numOf:=by
   intro l hl
   rw[bR,bR,kM]
   congr 1
   refine mN λp hp'=> ?_
   show(g (numOf p.2)==z)=(p.1==z)
   rw[hl p hp']
  rw[fl ps (λp hp'=>(hrel p (hp.mem_iff.mp hp')).1),hst z, <-fl _ (λp hp'=>(hrel p hp').1),O2 (by rw[aA];omega),hi.nums]
end
section
variable {X:Cx}{pins:List (Addr×Obj)}{σ:L2.St}{H:Hp}{s:aI}
theorem Lz {l f:Addr}{ns:List Int}{g:Int->Int}{Q:VK}(I:Inv X pins σ H s)(hl:dX X.K H l (ns.map V.int))(hz:ns.length<=sizeLine)
  (turn:∀(pins':List (Addr×Obj)) (s':aI) (H':Hp) (n:Int) (t:Tok),(∀p∈pins,p∈pins')->Inv X pins' σ H' s'->aZ H H'->n∈ns->wpAny (model X.prog X.w) X.A.in1.in1 (call (.ref f) [.int n t]) (EP X pins' σ (λv H''=>v=.int (g n)/\aZ H' H'')) (λ_ _=>False) s')
  (h:∀ns' H' D,OS g ns ns'->aZ H H'->H' D=none->Q (.ref D) (L2.upd H' D (.lst (ns'.map V.int)))):
  wpAny (model X.prog X.w) X.A (call (.builtin "sorted") [.ref l] [(hU "key",.ref f)]) (EP X pins σ Q) X.xe s:=by
 obtain⟨vs,rv,hlp,_⟩:=I.list hl
 have hi:IntsAre vs ns:=rv.ints
 have hll:=hlp.isList
 have hlen:vs.length=ns.length:=hi.length
 have hZ2:=hz
 rw[aX] at hZ2
 refine call_function_entry_kw kind_sorted plain_sorted entry_sorted (ksk_s1 _ _) ?_
 unfold Builtin.«sorted»
 refine aD (m:=checkCount "sorted" 1 1 _) (bC ?_)
 refine aD (collect_list hll ?_ (by rw[aX];omega))
 refine aD (wpAny_newList ?_ (by rw[aX];omega))
 have hsz:((s.heap.push (seqObj "list" #[] 0)).update s.heap.objs.size (eJ (·++vs.toArray))).objs.size=s.heap.objs.size+1:=by
  rw[Ac,size_push']
 have hoL:(((s.heap.push (seqObj "list" #[] 0)).update s.heap.objs.size (eJ (·++vs.toArray))).push (seqObj "list" vs.toArray 0)).get? (s.heap.objs.size+1)=some (seqObj "list" vs.toArray 0):=by
  rw[<-hsz];exact bF _ rfl
 have keep:∀b o,s.heap.get? b=some o->(((s.heap.push (seqObj "list" #[] 0)).update s.heap.objs.size (eJ (·++vs.toArray))).push (seqObj "list" vs.toArray 0)).get? b=some o:=λb o q=>by
  have hlt:b < s.heap.objs.size:=bD q
  rw[A8 _ _ _ (by rw[hsz];exact cJ (vC hlt)),Heap.get?_update_ne _ _ _ _ (cJ hlt),A8 _ _ _ (cJ hlt)]
  exact q
 show wpAny _ _ _ _ _ { s with heap:=((s.heap.push (seqObj "list" #[] 0)).update s.heap.objs.size (eJ (·++vs.toArray))).push (seqObj "list" vs.toArray 0) }
 rw[hsz]
 refine aD (lS (wpAny_call_entry_kw slot_list_sort ⟨_,hoL,rfl⟩ entry_list_sort ?body (ksk_l1 _ _)))
 case body=>
 show wpAny (model X.prog X.w) X.A.in1.in1 (Builtin.«list.sort» ⟨[.ref (s.heap.objs.size+1)],[(hU "key",.ref f)]⟩) _ _ _
 rw[ksk_t1]
 generalize ((s.heap.push (seqObj "list" #[] 0)).update s.heap.objs.size (eJ (·++vs.toArray))).push (seqObj "list" vs.toArray 0)=hA at hoL keep ⊢
 have hsA:s.heap.objs.size+1 < hA.objs.size:=bD hoL
 generalize ha:s.heap.objs.size+1=a at hoL hsA ⊢
 have hage:s.heap.objs.size<=a:=by omega
 have s1:=lW hA a (eJ λ_=>(#[]:Array aC))
 obtain⟨e1,ho1⟩:∃e1,(hA.update a (eJ λ_=>(#[]:Array aC))).get? a=some (seqObj "list" #[] e1):=⟨_,get?_update_seq hoL λ_=> #[]⟩
 have keep1:∀b o,s.heap.get? b=some o->(hA.update a (eJ λ_=>(#[]:Array aC))).get? b=some o:=λb o q=>
  (s1.2 b (cJ (bW (bD q) hage))).trans (keep b o q)
 unfold ksk_tree
 refine aD (listItems_at hoL rfl ?_)
 refine aD (listUpdate_at hoL rfl ?_ (by rw[bK,aX];omega) (cA _))
 refine aD (seqEpoch_at ho1 rfl ?_)
 refine aD (wpAny_newTuple ?_ (by show vs.length<=_;rw[aX];omega))
 refine aD (wpAny_newList ?_ (cA _))
 refine lS ?_
 have hs2:(hA.update a (eJ λ_=>(#[]:Array aC))).objs.size=hA.objs.size:=Ac ..
 have ho2:(((hA.update a (eJ λ_=>(#[]:Array aC))).push (seqObj "tuple" vs.toArray 0)).push (seqObj "list" #[] 0)).get? a=some (seqObj "list" #[] e1):=aG _ (aG _ ho1)
 have keep2:∀b o,s.heap.get? b=some o->(((hA.update a (eJ λ_=>(#[]:Array aC))).push (seqObj "tuple" vs.toArray 0)).push (seqObj "list" #[] 0)).get? b=some o:=λb o q=>
  aG _ (aG _ (keep1 b o q))
 have hkS:((hA.update a (eJ λ_=>(#[]:Array aC))).push (seqObj "tuple" vs.toArray 0)).objs.size=hA.objs.size+1:=by rw[size_push',Ac]
 have hok2:(((hA.update a (eJ λ_=>(#[]:Array aC))).push (seqObj "tuple" vs.toArray 0)).push (seqObj "list" #[] 0)).get? (hA.objs.size+1)=some (seqObj "list" #[] 0):=by
  rw[<-hkS];exact bF _ rfl
 show wpAny _ _ (ksk_rest a (.ref f) false vs.toArray e1 (.ref ((hA.update a (eJ λ_=>(#[]:Array aC))).push (seqObj "tuple" vs.toArray 0)).objs.size)) _ _ { s with heap:=((hA.update a (eJ λ_=>(#[]:Array aC))).push (seqObj "tuple" vs.toArray 0)).push (seqObj "list" #[] 0) }
 rw[hkS]
 generalize ((hA.update a (eJ λ_=>(#[]:Array aC))).push (seqObj "tuple" vs.toArray 0)).push (seqObj "list" #[] 0)=hB at ho2 keep2 hok2 ⊢
 generalize hkk:hA.objs.size+1=kS at hok2 ⊢
 have hkge:s.heap.objs.size<=kS:=by omega
 have hka:kS≠a:=by omega
 have fa:∀{H':Hp},H' a=none->MC X pins H' a:=λz=>I.fpOk hage z
 have fk:∀{H':Hp},H' kS=none->MC X pins H' kS:=λz=>I.fpOk hkge z
 have Ha:H a=none:=I.hok.fresh hage
 have Hk:H kS=none:=I.hok.fresh hkge
 have pinD:∀(q:Array aC) (n:Nat) (v:Option aC),(seqObj "list" q n).data≠ .cell v:=λq n v z=>nomatch z
 have ZT:∀{s':aI} {H':Hp} {kA:Array aC} {e:Nat},Inv X pins σ H' s'->H' a=none->H' kS=none->s'.heap.get? a=some (seqObj "list" #[] e1)->s'.heap.get? kS=some (seqObj "list" kA e)->Inv X (pins++[(a,seqObj "list" #[] e1),(kS,seqObj "list" kA e)]) σ H' s':=λ{s' H' kA e} J z1 z2 z3 z4=>
  J.pins_of λp hp=>(cW.mp hp).elim (λz=>J.pin p (dF _ z)) λz=>by
   rcases bN.mp z with rfl | z
   ·exact⟨z3,z1,(fa z1).2.1,(fa z1).2.2.1,pinD _ _⟩
   ·rw[cP.mp z]
    exact⟨z4,z2,(fk z2).2.1,(fk z2).2.2.1,pinD _ _⟩
 unfold ksk_rest
 refine aD (Va ?_)
 rw[List.forIn_toArray]
 refine aD (ksk_fold (λi s'=>∃H' kA e,Inv X (pins++[(a,seqObj "list" #[] e1),(kS,seqObj "list" kA e)]) σ H' s'/\aZ H H'/\IntsAre kA.toList ((ns.map g).take i)) vs 0 _
  ⟨H,#[],0,ZT (I.kept (h':=hB) (t':=s.toks) keep2) Ha Hk ho2 hok2,aZ.refl H,by simpa using IntsAre.nil⟩ ?step ?done)
 case step=>
  rintro j x s' hx ⟨H',kA,e,J,sm,hk⟩
  simp only[YZ] at hk ⊢
  have hj:j < vs.length:=(bL.mp hx).1
  obtain⟨n,t,rfl,hn⟩:=IntsAre.get hi hx
  have hz:kA.size<=vs.length:=by
   have h1:=hk.length
   rw[yF,iH,aA] at h1
   omega
  refine aD (Ab (jD (turn _ s' H' n t (λp hp=>iG _ hp) J sm (aY hn)) (λv s'' he=> ?_) λ_ _ hF=>hF.elim))
  obtain⟨v',H2,J2,rv2,rfl,sm2⟩:=he
  obtain⟨t2,rfl⟩:=rv2
  try dsimp only
  have pa:=J2.pin (a,seqObj "list" #[] e1) (by simp)
  have pk:=J2.pin (kS,seqObj "list" kA e) (by simp)
  have sb:=lW s''.heap kS (eJ (·.push (.int (g n) t2)))
  obtain⟨c2,hc2⟩:∃c2,(s''.heap.update kS (eJ (·.push (.int (g n) t2)))).get? kS=some (seqObj "list" (kA.push (.int (g n) t2)) c2):=⟨_,get?_update_seq pk.1 (·.push (.int (g n) t2))⟩
  have ek:(ns.map g).take (j+1)=(ns.map g).take j++[g n]:=by rw[List.take_add_one,aP,hn];simp
  have ea:(kA.push (pB (g n) t2)).toList=kA.toList++[pB (g n) t2]:=by simp
  refine aD (listUpdate_at pk.1 rfl ?_ (by rw[aX];omega) (cV (zX (Array.size_push ..)) (by rw[aX];omega)))
  refine bC ⟨rfl,H2,kA.push (.int (g n) t2),c2,?_,sm.trans sm2,by rw[ea,ek];exact ksk_snoc hk⟩
  have J3:Inv X pins σ H2 { s'' with heap:=s''.heap.update kS (eJ (·.push (.int (g n) t2))) }:=(J2.unpinned).turnedL (t':=s''.toks) (ch:=[kS]) (λb o hb q=>(sb.2 b (λz=>hb (by simp[z]))).trans q) (λb hb=>by
   have:b=kS:=by simpa using hb
   rw[this];exact fk pk.2.1)
  exact ZT J3 pa.2.1 pk.2.1 ((sb.2 a hka.symm).trans pa.1) hc2
 case done=>
  rintro s' ⟨H',kA,e,J,sm,hk⟩
  have hk':IntsAre kA.toList (ns.map g):=by
   have e3:(ns.map g).take (0+vs.length)=ns.map g:=gM (by rw[aA];omega)
   rw[e3] at hk
   exact hk
  have pa:=J.pin (a,seqObj "list" #[] e1) (by simp)
  have pk:=J.pin (kS,seqObj "list" kA e) (by simp)
  have J0:Inv X pins σ H' s':=J.unpinned
  try dsimp only
  refine aD (listItems_at pk.1 rfl ?_)
  obtain⟨m,hm,_⟩:=J0.loc
  have N:News (Att.noObjs s'.heap) X.env.locals s'.heap (F6 s'.heap X.env.locals a kS++[(kS,seqObj "list" kA e),(a,seqObj "list" #[] e1)]):=by
   rintro⟨b,o⟩ hp
   rcases cW.mp hp with hp | hp
   ·obtain⟨h1,_,_,h4⟩:=NZ.mp hp
    exact⟨h4,h1,Att.noObjs_get _ _⟩
   ·rcases bN.mp hp with e | hp
    ·cases e;exact⟨pk.1,pk.2.2.1,Att.noObjs_get _ _⟩
    ·cases cP.mp hp;exact⟨pa.1,pa.2.2.1,Att.noObjs_get _ _⟩
  refine ksk_end_St (b:=false) (Att.fr_all hm) N hka (λp hp=>(NZ.mp (show(p.1,p.2)∈_ from hp)).2.2.1) (λp hp=>(NZ.mp (show(p.1,p.2)∈_ from hp)).2.1) hk' (by rw[aA];omega) (by rw[aX];omega) λh3 tk3 out c F3 N3 k3=> ?_
  obtain⟨ns',hi',sb'⟩:=Hl hi k3
  have hlen':ns'.length=ns.length:=sb'.1.length_eq
  have ho3:=(N3 (a,seqObj "list" out c) (aT ..)).1
  refine⟨_,rfl,bC ⟨_,rfl,.ref a,_,?_,rfl,h ns' H' a sb' sm pa.2.1⟩⟩
  refine Inv.taken (ch:=[a,kS]) J0 (λb o hL hc q=> ?_) (λb hb=> ?_) (by simp) (λm' hm'=> ?_) ?_
  ·exact(N3 (b,o) (aN _ (NZ.mpr ⟨hL,λz=>hc (by simp[z]),λz=>hc (by simp[z]),q⟩))).1
  ·have hb':b=a\/b=kS:=by simpa using hb
   rcases hb' with rfl | rfl
   ·exact fa pa.2.1
   ·exact fk pk.2.1
  ·rw[hm'.eq_nsMap, <-hm.eq_nsMap]
   exact F3.ns
  ·refine⟨by rw[aA];omega,out.toList,c,sA hi',?_⟩
   rw[ho3]
end
def Qx (q:Str)(c:Addr):HO:=.ext λh=>h.CodeRec (.ref c) q
theorem XX {q:Str}{c:Addr}:∀h1 h2:Heap,h1.CodeRec (.ref c) q->(∀o,h1.get? c=some o->h2.get? c=some o)->h2.CodeRec (.ref c) q:=by
 rintro h1 h2 ⟨c',o,vs,t,e,e1,e2,e3⟩ k
 cases e
 exact⟨c,o,vs,t,rfl,k _ e1,e2,e3⟩
def vX (H:Hp)(P:Addr)(q:Str)(pos:Pos):Prop:=∃ps,H P=some (.tbl ps)/\(ps= #[]\/∃c,ps= #[rawInt pos.line,rawInt pos.col,.ref c]/\H c=some (Qx q c))
theorem vX.same {H H':Hp}{P:Addr}{q:Str}{pos:Pos}(h:vX H P q pos)(e:aZ H H'):vX H' P q pos:=by
 obtain⟨ps,h1,h2⟩:=h
 refine⟨ps,e _ _ h1,h2.imp id ?_⟩
 rintro⟨c,h3,h4⟩
 exact⟨c,h3,e _ _ h4⟩
def Tb (P:Addr)(q:Str)(pos:Pos)(H H':Hp):Prop:=(∀b o,H b=some o->b≠P->H' b=some o)/\vX H' P q pos
section
variable {X:Cx}{pins:List (Addr×Obj)}{σ:L2.St}{H:Hp}{s:aI}
theorem Uh (pos:Pos)(c:Addr):codeAmong pos [rawInt pos.line,rawInt pos.col,.ref c]=some (.ref c):=by
 simp[codeAmong,rawInt]
theorem Xm {E:aC->aI->Prop}{Q:aC->aI->Prop}{name qual:Str}{params:Arguments}{body:Expr}{scope:Scope}{c P:Addr}{pos:Pos}{firstLine:Nat}(I:Inv X pins σ H s)(hcode:X.env.code=.ref c)(C:∀h,X.K.In h->PySem.W.CodeHd h c P)(hb:Df X.base X.mg)
  (hfree:∀y∈scope.names,y.2=.free->X.env.scope.names.lookup y.1=some .cell) (T:vX H P qual pos)
  (h:∀H' s' f c' ctv,Inv X (pins++[(f,PySem.W.kla_obj name qual params body scope (fD X.env.cells scope.names []) ((X.mg "__name__").getD .none) c' ctv)]) σ H' s'->Tb P qual pos H H'->H' c'=some (Qx qual c')->Q (.ref f) s'):
  wpAny (model X.prog X.w) X.A (makeFunction name qual params (.expr body) scope X.env [] [] [] pos firstLine) Q E s:=by
 obtain⟨ps,hP,hc⟩:=T
 have hcl:closureFor scope X.env=pure (fD X.env.cells scope.names []):=XY λy hy e=>I.ok.has _ (.inl (hfree y hy e))
 have hPh:s.heap.get? P=some (PySem.W.tabObj ps):=I.hok P _ hP
 have hB:s.heap.BuiltinsAt X.mg P:=by
  obtain⟨bm,o,b1,b2,b3,b4,b5,b6⟩:=hb
  have e:=I.bk _ _ b4
  exact⟨bm,o,b1,b2,b3,(λz=>by rw[z,hPh] at e;cases e;cases b5),e,b5,b6⟩
 have hgP:mainGlobals≠P:=λz=>by
  obtain⟨o,es,ep,e,hd,_⟩:=I.mod.glob.keeps I.bk
  rw[z,hPh] at e;cases e;cases hd
 have npin:∀(f:Addr) (H':Hp) (o:Obj),s.heap.objs.size<=f->(∀v,o.data≠ .cell v)->H' f=none->∀{s':aI},s'.heap.get? f=some o->Inv X pins σ H' s'->Inv X (pins++[(f,o)]) σ H' s':=λf H' o hf hd hn s' hs J=>
  J.pins_of λp hp=>(cW.mp hp).elim (λz=>J.pin p (dF _ z)) λz=>by
   rw[cP.mp z]
   have q:=I.fpOk hf hn
   exact⟨hs,hn,q.2.1,q.2.2.1,hd⟩
 rcases hc with rfl | ⟨c0,rfl,hc0⟩
 ·refine PySem.W.kla_makeFunction (mg:=X.mg) hcl I.ok.glob (I.mod.glob.keeps I.bk) hcode (C _ I.kIn) hPh trivial rfl hgP hB λc' ctv h' tk hx hge hlt hrec htb=> ?_
  have hPlt:P < s.heap.objs.size:=bD hPh
  have hPc:P≠c':=cJ (bW hPlt hge)
  have Hc':H c'=none:=I.hok.fresh hge
  have nP:∀b,H b=none->b≠P:=λb z e=>by rw[e,hP] at z;cases z
  have nPt:∀b o,H b=some o->(∀ps,o≠ .tbl ps)->b≠P:=λb o z hn e=>by rw[e,hP] at z;cases z;exact hn _ rfl
  have nc:∀b o,H b=some o->b≠c':=λb o z=>bJ z Hc'
  have kp:∀b o,b≠P->s.heap.get? b=some o->(h'.push (PySem.W.kla_obj name qual params body scope (fD X.env.cells scope.names []) ((X.mg "__name__").getD .none) c' ctv)).get? b=some o:=λb o hb e=>aG _ (hx b o hb e)
  have lc:∀b o,s.heap.get? b=some o->b≠c':=λb o e=>cJ (bW (bD e) hge)
  have hsf:s.heap.objs.size<=h'.objs.size:=cV hge (KJ hlt)
  generalize hob:PySem.W.kla_obj name qual params body scope (fD X.env.cells scope.names []) ((X.mg "__name__").getD .none) c' ctv=ob at kp ⊢
  have J:Inv X pins σ (L2.upd (L2.upd H P (.tbl (#[]++ #[rawInt pos.line,rawInt pos.col,.ref c']))) c' (Qx qual c')) { s with heap:=h'.push ob,toks:=tk }:=by
   refine I.step (g':=s.gens) (d':=s.drawn) (ch:=[]) (λb z=>absurd z (by simp)) (λb o _ _ _ e n=>kp b o (nP b n) e) (λb o _ _ _ e n=>⟨o.slots,kp b o (nP b n) e⟩) (λb o _ e n=> ?_) (λb o _ e=> ?_) (λb xs e=> ?_) (λb o u e=> ?_) (λb ps e=> ?_) (λm hm=> ?_) (λb u e=> ?_) I.bare
   ·rw[aM (lc b o e),aM (nP b n)];exact n
   ·by_cases hb:b=P
    ·exact⟨_,aG _ (by rw[hb];exact htb)⟩
    ·exact⟨o,kp b o hb e⟩
   ·rw[aM (nc b _ e),aM (nPt b _ e (λ_ z=>nomatch z))];exact e
   ·rw[aM (nc b _ e),aM (nPt b _ e (λ_ z=>nomatch z))];exact e
   ·by_cases hb:b=P
    ·rw[hb,hP] at e
     cases e
     exact⟨_,by rw[hb,aM hPc,aK]⟩
    ·exact⟨#[],by rw[aM (nc b _ e),aM hb,e];simp⟩
   ·obtain⟨o,es,ep,e,r⟩:=hm
    exact⟨o,es,ep,kp _ _ (nP _ I.free) e,r⟩
   ·by_cases h1:b=c'
    ·subst h1
     rw[aK] at e
     cases e
     have hrec':(h'.push ob).CodeRec (.ref b) qual:=XX h' _ hrec λo q=>aG _ q
     refine⟨hrec',?_,XX⟩
     obtain⟨c2,o,_,_,z,q,_⟩:=hrec'
     cases z
     exact⟨o,q⟩
    ·rw[aM h1] at e
     by_cases h2:b=P
     ·subst h2
      rw[aK] at e
      cases e
      exact aG _ htb
     ·rw[aM h2] at e
      refine(I.hok b u e).stay (λd v hd q=> ?_) (λd q=>by rw[aM (nc d _ q),aM (nPt d _ q (λ_ z=>nomatch z))];exact q) λd xs q=>by rw[aM (nc d _ q),aM (nPt d _ q (λ_ z=>nomatch z))];exact q
      rcases hd with rfl | hd
      ·exact kp d v h2 q
      ·exact kp d v (nPt d _ hd (λ_ z=>nomatch z)) q
  have hfn:L2.upd (L2.upd H P (.tbl (#[]++ #[rawInt pos.line,rawInt pos.col,.ref c']))) c' (Qx qual c') h'.objs.size=none:=by
   rw[aM (oO hlt),aM (oO (bW hPlt hsf))]
   exact I.hok.fresh hsf
  subst hob
  refine h _ _ _ c' ctv (npin _ _ _ hsf (λv z=>N5 z) hfn (bF _ rfl) J) ⟨λb o e hb=> ?_,_,by rw[aM hPc,aK],.inr ⟨c',by simp,aK⟩⟩ aK
  rw[aM (nc b _ e),aM hb];exact e
 ·refine PySem.W.kla_makeFunctionHit (mg:=X.mg) (cv:=.ref c0) hcl I.ok.glob (I.mod.glob.keeps I.bk) hcode (C _ I.kIn) hPh trivial (Uh pos c0) hB λctv h' tk hk hsz=> ?_
  have J:Inv X pins σ H { s with heap:=h'.push (PySem.W.kla_obj name qual params body scope (fD X.env.cells scope.names []) ((X.mg "__name__").getD .none) c0 ctv),toks:=tk }:=I.kept λb o e=>aG _ (hk b o e)
  exact h _ _ _ c0 ctv (npin _ _ _ hsz (λv z=>N5 z) (I.hok.fresh hsz) (bF _ rfl) J) ⟨λb o e _=>e,_,hP,.inr ⟨c0,rfl,hc0⟩⟩ hc0
def Vr (K:PySem.W.Frag)(P:Addr)(q:Str)(lp:Pos)(i1 i2:Nat)(te:TE)(ta:TA):TE:=λσ H Q=>ta σ H λvs H1=>∃(l:Addr) (ns:List Int) (g:Int->Int) (v1 v2:V),vs=[.ref l]/\dX K H1 l (ns.map V.int)/\ns.length<=sizeLine/\vX H1 P q lp/\σ[i1]? =some (some v1)/\σ[i2]? =some (some v2)/\l≠P/\
 (∀n∈ns,∀H',Tb P q lp H1 H'->te [some (.int n),some v1,some v2] H' λv H''=>v=.int (g n)/\aZ H' H'')/\∀ns' H' D,OS g ns ns'->Tb P q lp H1 H'->H' D=none->Q (.ref D) (L2.upd H' D (.lst (ns'.map V.int)))
theorem Mi {e body:Expr}{ta:TA}{te:TE}{p pos lp kp:Pos}{params:Arguments}{scope:Scope}{x y1 y2:Str}{i1 i2:Nat}{c P:Addr}(hg:Gl X "sorted")(hm:X.mg "sorted"=none)(ha:PA X [e] ta)(hcode:X.env.code=.ref c)(C:∀h,X.K.In h->PySem.W.CodeHd h c P)(hb:Df X.base X.mg)
  (S:Rm X.N X.env.scope scope x y1 y2 i1 i2) (hc:X.calm=true) (hroom:X.A.depth < recursionLimit)
  (he:∀s H f c' cl,PE (ff X X.A.in1.in1 s H [x,y1,y2] (PySem.W.envX (X.env.qual++"<lambda>") scope s.heap.objs.size f (.ref c') cl)) body te)
  (hbind:∀u cl pm cv ctv,bindArgs (PySem.W.kla_fn "<lambda>" (X.env.qual++"<lambda>") params body scope cl pm cv ctv) ⟨[u],[]⟩=pure [(x,u)]) (hdef:defaultsOf params X.env=([],[]):=by rfl)
  (hs:backTo pos (starEach [e] X.env)=(false,eval e X.env)::backTo pos (starEach [] X.env):=by rfl):
  PE X (.Call (.Name "sorted" p) [e] [⟨some "key",.Lambda params body scope lp,kp⟩] pos) (Vr X.K P (X.env.qual++"<lambda>") lp i1 i2 te ta):=by
 intro pins s σ H Q I h
 refine jW (xO I hg hm boot_sorted ?_)
 refine callWith_kw (kC (ha pos pins s σ H _ I h) λus s1 ⟨vs,H1,I1,r1,q1⟩=> ?_) hs (by rw[hs];rfl)
 obtain⟨l,ns,g,v1,v2,rfl,hl,hz,T,e1,e2,hlP,ht,k⟩:=q1
 rw[eG.ref1 r1]
 refine kws_cons (PySem.W.kla_eval hdef (Xm I1 hcode C hb S.fr T λH2 s2 f c' ctv I2 tb hc'=>kws_nil ?_))
 have hl2:dX X.K H2 l (ns.map V.int):=by
  rcases hl with(hl | ⟨o,hl⟩) | hl
  ·exact .inl (.inl (tb.1 _ _ hl hlP))
  ·exact .inl (.inr ⟨o,tb.1 _ _ hl hlP⟩)
  ·exact .inr hl
 have tb2:∀{H'},aZ H2 H'->Tb P (X.env.qual++"<lambda>") lp H1 H':=λ{H'} sm=>⟨λb o e n=>sm _ _ (tb.1 b o e n),tb.2.same sm⟩
 refine jD (Lz I2 hl2 hz (λpins' s' H' n t hp J sm hn=> ?_) λns' H' D sb sm hD=>k ns' H' D sb (tb2 sm) hD) (λu s' ⟨v,H',J,r,q⟩=>⟨v,H',J.unpinned,r,q⟩) λ_ _ z=>z
 have ho:=(J.pin _ (dF _ (hp _ (dF _ (List.mem_singleton_self _))))).1
 have hrec:s'.heap.CodeRec (.ref c') (X.env.qual++"<lambda>"):=(J.hok c' _ (sm _ _ hc')).1
 exact Xn (xv:=.int n) J S (show X.A.frames=_ from I.ok.frames) (show X.A.handled=none from I.ok.hd hc) hroom e1 e2 ⟨t,rfl⟩ ho hrec (hbind _ _ _ _ _) (he s' H' f c' _) (ht n hn H' (tb2 sm))
end
section
theorem Jd (a v:aC):argsOk "min" ⟨[a],[(hU "default",v)]⟩:=by unfold argsOk;kernel_rfl
section
variable {prog:bS}{w:cY}{A:dZ}{E:aC->aI->Prop}{s:aI}{l:Addr}{vs:List aC}
theorem Jc {R:Vc->aI->Prop}{I S:Addr}{kw:List (Str×aC)}(hh:A.handled=none)(hl:s.heap.IsList l vs.toArray)(hI:s.heap.objs.size<=I)(hS:s.heap.objs.size<=S)(hSI:S≠I)(bt:Nat->Nat->Bool)
  (hcmp:∀i j vi vj h tk,vs[i]? =some vi->vs[j]? =some vj->(∀b o,s.heap.get? b=some o->h.get? b=some o)->∀(Q:aC->aI->Prop) (E:aC->aI->Prop),Q (.bool (bt i j)) { s with heap:=h,toks:=tk }->wpAny (model prog w) A.in1 (richCompare .Lt vi vj) Q E { s with heap:=h,toks:=tk })
  (hR:∀v h' tk,vs[argBest bt (vs.length - 1)]? =some v->(∀b o,s.heap.get? b=some o->h'.get? b=some o)->R (.ok (.ret v)) { s with heap:=h',toks:=tk }):
  ∀(r j:Nat) (h:Heap) (tk:Nat) (vb:aC) (c:Nat),vs.length - (j+1)=r->j+1<=vs.length->(∀b o,s.heap.get? b=some o->h.get? b=some o)->h.IsListIter I l (j+1)->vs[argBest bt j]? =some vb->
   h.get? S=some { cls:=.type "list",dict:=none,data:=.seq #[vb,vb] c,slots:= #[] }->codeAny (model prog w) A (.builtin "min.loop" ⟨[.ref I,.none,.ref S],kw⟩) R { s with heap:=h,toks:=tk }:=by
 have hname:(toString "min"++toString ".loop":String)="min.loop":=by decide
 have hlI:l≠I:=by
  obtain⟨o,e,_⟩:=hl
  exact cJ (bW (bD e) hI)
 have W:=Gh (prog:=prog) (w:=w) (A:=A.in1) hh I l hlI vs.toArray
 have hsz:vs.toArray.size=vs.length:=bK ..
 have nI:∀b o,s.heap.get? b=some o->b ∉ [I]:=λb o e z=>by
  have:b=I:=by simpa using z
  exact absurd (bW (bD e) hI) (by rw[this];exact fV _)
 have nS:∀b o,s.heap.get? b=some o->S≠b:=λb o e z=>absurd (bW (bD e) hS) (by rw[z];exact fV _)
 intro r
 induction r with
 | zero=>
  intro j h tk vb c hr hj hk hit hvb hSo
  have hin:j+1=vs.length:=by omega
  refine uR PySem.F.entry_min_loop ?_
  rw[lZ PySem.F.plain_min_loop _]
  show wpAny _ A.in1 (seqItems? (.ref S) >>= _) _ _ _
  refine aD (kO hSo rfl ?_)
  show wpAny _ A.in1 (tryCatch (pyNext (.ref I)) _ >>= _) _ _ _
  refine aD (EW (W.done _ _ _ ⟨by rw[hsz, <-hin];exact hit,hl.at λo e=>hk _ _ e⟩ λh' tk' hk'=> ?_))
  have hS':=hk' S _ (by simpa using hSI) hSo
  show wpAny _ A.in1 (updateSeq S (λ_=> #[]) >>= _) _ _ _
  refine aD ?_
  refine RD hS' rfl (aD (vR (bC ?_)))
  exact hR vb _ _ (by rw[<-hin];exact hvb) λb o e=>(gL _ _ (nS b o e)).trans (hk' b o (nI b o e) (hk b o e))
 | succ r ih=>
  intro j h tk vb c hr hj hk hit hvb hSo
  have hlt:j+1 < vs.length:=by omega
  refine uR PySem.F.entry_min_loop ?_
  rw[lZ PySem.F.plain_min_loop _]
  show wpAny _ A.in1 (seqItems? (.ref S) >>= _) _ _ _
  refine aD (kO hSo rfl ?_)
  show wpAny _ A.in1 (tryCatch (pyNext (.ref I)) _ >>= _) _ _ _
  refine aD (EW (W.item (j+1) _ _ _ (by rw[hsz];exact hlt) ⟨hit,hl.at λo e=>hk _ _ e⟩ λv h' tk' hP hst' hk'=> ?_))
  have hv:vs[j+1]? =some v:=by simpa using hP
  have hS':=hk' S _ (by simpa using hSI) hSo
  have hkk:∀b o,s.heap.get? b=some o->h'.get? b=some o:=λb o e=>hk' b o (nI b o e) (hk b o e)
  show wpAny _ A.in1 (tryCatch (holding [v,v] (richCompare .Lt v vb >>= _)) _ >>= _) _ _ _
  refine aD (EW (lS (aD (hcmp (j+1) (argBest bt j) v vb h' tk' hv hvb hkk _ _ ?_))))
  refine aD (lS (gH ?_))
  refine aD (vR (bC ?_))
  cases hb:bt (j+1) (argBest bt j) with
  | true=>
   simp only[if_true]
   refine aD ?_
   refine RD hS' rfl (aD (vR ?_))
   rw[hname]
   refine bC ⟨pW PySem.F.plain_min_loop _,ih (j+1) _ _ v _ (by omega) hlt (λb o e=>(gL _ _ (nS b o e)).trans (hkk b o e)) (hst'.1.at λo e=>(gL _ _ hSI).trans e) (by simp only[argBest,hb,if_true];exact hv) (lP _ hS' rfl)⟩
  | false=>
   simp only[eO,if_false]
   refine aD (vR ?_)
   rw[hname]
   exact bC ⟨pW PySem.F.plain_min_loop _,ih (j+1) _ _ vb c (by omega) hlt hkk hst'.1 (by simp only[argBest,hb,eO,if_false];exact hvb) hS'⟩
theorem NY {R:Vc->aI->Prop}{I S:Addr}{kw:List (Str×aC)}{h:Heap}{tk c:Nat}(hh:A.handled=none)(hl:s.heap.IsList l vs.toArray)(hI:s.heap.objs.size<=I)(hS:s.heap.objs.size<=S)(hSI:S≠I)(hne:0 < vs.length)(bt:Nat->Nat->Bool)
  (hcmp:∀i j vi vj h tk,vs[i]? =some vi->vs[j]? =some vj->(∀b o,s.heap.get? b=some o->h.get? b=some o)->∀(Q:aC->aI->Prop) (E:aC->aI->Prop),Q (.bool (bt i j)) { s with heap:=h,toks:=tk }->wpAny (model prog w) A.in1 (richCompare .Lt vi vj) Q E { s with heap:=h,toks:=tk })
  (hR:∀v h' tk,vs[argBest bt (vs.length - 1)]? =some v->(∀b o,s.heap.get? b=some o->h'.get? b=some o)->R (.ok (.ret v)) { s with heap:=h',toks:=tk })
  (hk:∀b o,s.heap.get? b=some o->h.get? b=some o) (hit:h.IsListIter I l 0) (hSo:h.get? S=some { cls:=.type "list",dict:=none,data:=.seq #[] c,slots:= #[] }):
  codeAny (model prog w) A (.builtin "min.loop" ⟨[.ref I,.none,.ref S],kw⟩) R { s with heap:=h,toks:=tk }:=by
 have hname:(toString "min"++toString ".loop":String)="min.loop":=by decide
 have hlI:l≠I:=by
  obtain⟨o,e,_⟩:=hl
  exact cJ (bW (bD e) hI)
 have W:=Gh (prog:=prog) (w:=w) (A:=A.in1) hh I l hlI vs.toArray
 have hsz:vs.toArray.size=vs.length:=bK ..
 have nI:∀b o,s.heap.get? b=some o->b ∉ [I]:=λb o e z=>by
  have:b=I:=by simpa using z
  exact absurd (bW (bD e) hI) (by rw[this];exact fV _)
 have nS:∀b o,s.heap.get? b=some o->S≠b:=λb o e z=>absurd (bW (bD e) hS) (by rw[z];exact fV _)
 refine uR PySem.F.entry_min_loop ?_
 rw[lZ PySem.F.plain_min_loop _]
 show wpAny _ A.in1 (seqItems? (.ref S) >>= _) _ _ _
 refine aD (kO hSo rfl ?_)
 show wpAny _ A.in1 (tryCatch (pyNext (.ref I)) _ >>= _) _ _ _
 refine aD (EW (W.item 0 _ _ _ (by rw[hsz];exact hne) ⟨hit,hl.at λo e=>hk _ _ e⟩ λv h' tk' hP hst' hk'=> ?_))
 have hv:vs[0]? =some v:=by simpa using hP
 have hS':=hk' S _ (by simpa using hSI) hSo
 have hkk:∀b o,s.heap.get? b=some o->h'.get? b=some o:=λb o e=>hk' b o (nI b o e) (hk b o e)
 show wpAny _ A.in1 (updateSeq S (λ_=> #[v,v]) >>= _) _ _ _
 refine aD ?_
 refine RD hS' rfl ?_
 rw[hname]
 exact bC ⟨pW PySem.F.plain_min_loop _,Jc hh hl hI hS hSI bt hcmp hR _ 0 _ _ v _ rfl hne (λb o e=>(gL _ _ (nS b o e)).trans (hkk b o e)) (hst'.1.at λo e=>(gL _ _ hSI).trans e) hv (lP _ hS' rfl)⟩
theorem F2 {Q:aC->aI->Prop}(hh:A.handled=none)(hl:s.heap.IsList l vs.toArray)(hne:0 < vs.length)(bt:Nat->Nat->Bool)
  (hcmp:∀i j vi vj h tk,vs[i]? =some vi->vs[j]? =some vj->(∀b o,s.heap.get? b=some o->h.get? b=some o)->∀(Q:aC->aI->Prop) (E:aC->aI->Prop),Q (.bool (bt i j)) { s with heap:=h,toks:=tk }->wpAny (model prog w) A.in1 (richCompare .Lt vi vj) Q E { s with heap:=h,toks:=tk })
  (hR:∀v h' tk,vs[argBest bt (vs.length - 1)]? =some v->(∀b o,s.heap.get? b=some o->h'.get? b=some o)->Q v { s with heap:=h',toks:=tk }):wpAny (model prog w) A (call (.builtin "min") [.ref l]) Q E s:=by
 have hname:(toString "min"++toString ".loop":String)="min.loop":=by decide
 refine call_function_tree PySem.F.kind_min PySem.F.plain_min PySem.F.entry_min (PySem.F.args_min1 _) ?_
 show wpAny _ A.in1 (mW "min" ["key","default"] 0 ⟨[],[]⟩ >>= _) _ _ s
 refine aD (Nu (show mW "min" ["key","default"] 0 ⟨[],[]⟩=pure [none,none] from rfl) ?_)
 refine aD (bC ?_)
 refine aD (xB hl ?_)
 refine aD (lC ?_ (by show 0<=sizeLine;decide))
 rw[hname]
 refine bC ⟨pW PySem.F.plain_min_loop _,?_⟩
 exact NY (s:=s) hh hl (aU _) (by rw[dE];exact xZ _) (by rw[dE];exact Dc _) hne bt hcmp hR (λb o e=>aG _ (aG _ e)) ⟨_,aG _ (bF _ rfl),rfl,rfl⟩ (bF _ rfl)
theorem WX {d:aC}{Q:aC->aI->Prop}(hh:A.handled=none)(hl:s.heap.IsList l vs.toArray)(bt:Nat->Nat->Bool)
  (hcmp:∀i j vi vj h tk,vs[i]? =some vi->vs[j]? =some vj->(∀b o,s.heap.get? b=some o->h.get? b=some o)->∀(Q:aC->aI->Prop) (E:aC->aI->Prop),Q (.bool (bt i j)) { s with heap:=h,toks:=tk }->wpAny (model prog w) A.in1 (richCompare .Lt vi vj) Q E { s with heap:=h,toks:=tk })
  (hR:∀v h' tk,(vs=[]/\v=d)\/(vs≠[]/\vs[argBest bt (vs.length - 1)]? =some v)->(∀b o,s.heap.get? b=some o->h'.get? b=some o)->Q v { s with heap:=h',toks:=tk }):wpAny (model prog w) A (call (.builtin "min") [.ref l] [(hU "default",d)]) Q E s:=by
 have hname:(toString "min"++toString ".loop":String)="min.loop":=by decide
 refine kmk_tree PySem.F.kind_min PySem.F.plain_min PySem.F.entry_min (Jd _ _) ?_
 show wpAny _ A.in1 (mW "min" ["key","default"] 0 ⟨[],[(hU "default",d)]⟩ >>= _) _ _ s
 refine aD (Nu (show mW "min" ["key","default"] 0 ⟨[],[(hU "default",d)]⟩=pure [none,some d] from rfl) ?_)
 refine aD (bC ?_)
 refine aD (xB hl ?_)
 refine aD (lC ?_ (by show 0<=sizeLine;decide))
 rw[hname]
 refine bC ⟨pW PySem.F.plain_min_loop _,?_⟩
 by_cases hne:vs=[]
 ·subst hne
  have hlI:l≠s.heap.objs.size:=by
   obtain⟨o,e,_⟩:=hl
   exact cJ (bD e)
  have W:=Gh (prog:=prog) (w:=w) (A:=A.in1) hh s.heap.objs.size l hlI (#[]:Array aC)
  refine uR PySem.F.entry_min_loop ?_
  rw[lZ PySem.F.plain_min_loop _]
  show wpAny _ A.in1 (seqItems? (.ref (s.heap.push _).objs.size) >>= _) _ _ _
  refine aD (kO (bF _ rfl) rfl ?_)
  show wpAny _ A.in1 (tryCatch (pyNext (.ref s.heap.objs.size)) _ >>= _) _ _ _
  refine aD (EW (W.done _ _ _ ⟨⟨_,aG _ (bF _ rfl),rfl,rfl⟩,hl.at λo e=>aG _ (aG _ e)⟩ λh' tk' hk'=> ?_))
  refine aD (Va (bC ?_))
  refine hR d _ _ (.inl ⟨rfl,rfl⟩) λb o e=>hk' b o (λz=> ?_) (aG _ (aG _ e))
  have:b=s.heap.objs.size:=by simpa using z
  exact absurd (bD e) (by rw[this];exact fV _)
 ·refine NY (s:=s) hh hl (aU _) (by rw[dE];exact xZ _) (by rw[dE];exact Dc _) (zE.mpr hne) bt hcmp (λv h' tk q=>hR v h' tk (.inr ⟨hne,q⟩)) (λb o e=>aG _ (aG _ e)) ⟨_,aG _ (bF _ rfl),rfl,rfl⟩ (bF _ rfl)
end
section
open PySem.SeqAt
open PySem.AutoSeq1 (wpAny_loadPart')
open PySem.MeetsSeq PySem.MeetsSeq2 PySem.MeetsSeq3
open HT (lexLt)
theorem Xj {ns ms:List Int}{i:Nat}{a c:Int}(h1:ns[i]? =some a)(h2:ms[i]? =some c):lexLt (ns.drop i) (ms.drop i)=if a=c then lexLt (ns.drop (i+1)) (ms.drop (i+1)) else decide (a < c):=by
 obtain⟨l1,e1⟩:=bL.mp h1
 obtain⟨l2,e2⟩:=bL.mp h2
 rw[rL l1,rL l2,e1,e2]
 rfl
theorem Qa {ns ms:List Int}{i:Nat}(h:ns[i]? =none\/ms[i]? =none)(hi:i<=ns.length)(hj:i<=ms.length):lexLt (ns.drop i) (ms.drop i)=decide (ns.length < ms.length):=by
 rcases h with h | h
 ·rw[rK] at h
  rw[Uq h]
  cases e:ms.drop i with
  | nil=>
   rw[xV] at e
   exact(decide_eq_false (by omega)).symm
  | cons y ys=>
   have:ms.length≠i:=λz=>by rw[<-z,HH] at e;cases e
   exact(decide_eq_true (by omega)).symm
 ·rw[rK] at h
  rw[Uq h]
  cases e:ns.drop i with
  | nil=>
   rw[xV] at e
   exact(decide_eq_false (by omega)).symm
  | cons y ys=>
   have:ns.length≠i:=λz=>by rw[<-z,HH] at e;cases e
   exact(decide_eq_false (by omega)).symm
theorem j6 (l b:Addr)(items items2:Array aC)(n n2:Nat)(ns ms:List Int)(hi:IntsAre items.toList ns)(hj:IntsAre items2.toList ms):∀(k i:Nat),ns.length - i=k->i<=ns.length->i<=ms.length->
  Meets (Builtin.«list.__eq__.loop» ⟨[.ref l,.ref b,rawInt i,rawInt 0],[]⟩)
   (λ_ R s=>s.heap.get? l=some { cls:=.type "list",dict:=none,data:=.seq items n,slots:= #[] }/\s.heap.get? b=some { cls:=.type "list",dict:=none,data:=.seq items2 n2,slots:= #[] }/\
    R (.ok (.ret (.bool (lexLt (ns.drop i) (ms.drop i))))) s):=by
 have z1:items.size=ns.length:=by rw[<-hi.length];simp
 have z2:items2.size=ms.length:=by rw[<-hj.length];simp
 intro k
 induction k with
 | zero=>
  intro i hk hin him prog w A R s h
  obtain⟨hp,g,d,tk,os⟩:=s;obtain⟨hl,hb,h⟩:=h
  wp_walk using fB hl,fB hb
  have hi1:items[((i:Nat):Int).toNat]? =none:=by simp;omega
  rw[hi1]
  wp_walk using fB hl,fB hb
  rw[Qa (.inl (by rw[rK];omega)) hin him] at h
  show R (.ok (.ret (.bool (decide (items.size < items2.size))))) _
  rw[z1,z2]
  exact h
 | succ k ih=>
  intro i hk hin him prog w A R s h
  obtain⟨hp,g,d,tk,os⟩:=s;obtain⟨hl,hb,h⟩:=h
  wp_walk using fB hl,fB hb
  have hlt:i < items.size:=by omega
  by_cases hlt2:i < items2.size
  ·have hi1:items[((i:Nat):Int).toNat]? =some items[i]:=by simp[hlt]
   have hi2:items2[((i:Nat):Int).toNat]? =some items2[i]:=by simp[hlt2]
   obtain⟨a,t,ea,na⟩:=IntsAre.get hi (j:=i) (v:=items[i]) (by simp[hlt])
   obtain⟨c,u,ec,nc⟩:=IntsAre.get hj (j:=i) (v:=items2[i]) (by simp[hlt2])
   have hc:((i:Int)+1)=((i+1:Nat):Int):=by push_cast;rfl
   rw[Xj na nc] at h
   rw[hi1,hi2,ea,ec]
   refine aD ((EqGives.int a c t u) prog w _ _ _ _ ?_)
   by_cases hac:a=c
   ·rw[if_pos hac] at h
    have:(a==c)=true:=by simp[hac]
    rw[this]
    wp_walk
    rw[hc]
    exact⟨pW plain_eq_loop _,uR entry_eq_loop (by
     rw[lZ plain_eq_loop _]
     exact ih (i+1) (by omega) (by omega) (by omega) prog w A R _ ⟨hl,hb,h⟩)⟩
   ·rw[if_neg hac] at h
    have:(a==c)=false:=by simp[hac]
    rw[this]
    wp_walk using fB hl,fB hb
    rw[hi1,hi2,ea,ec]
    have hri:=HT.rcLt_int A.in1 ⟨hp,g,d,tk,os⟩ a t c u prog w
    wp_walk using hri
    exact h
  ·have hi2:items2[((i:Nat):Int).toNat]? =none:=by simp;omega
   have hi1:items[((i:Nat):Int).toNat]? =some items[i]:=by simp[hlt]
   rw[hi2,hi1]
   wp_walk using fB hl,fB hb
   rw[Qa (.inr (by rw[rK];omega)) hin him] at h
   show R (.ok (.ret (.bool (decide (items.size < items2.size))))) _
   rw[z1,z2]
   exact h
theorem Et (l b:Addr)(items items2:Array aC)(n n2:Nat)(ns ms:List Int)(hi:IntsAre items.toList ns)(hj:IntsAre items2.toList ms):
  Meets (Builtin.«list.__lt__» ⟨[.ref l,.ref b],[]⟩)
   (λ_ R s=>s.heap.get? l=some { cls:=.type "list",dict:=none,data:=.seq items n,slots:= #[] }/\s.heap.get? b=some { cls:=.type "list",dict:=none,data:=.seq items2 n2,slots:= #[] }/\
    R (.ok (.ret (.bool (lexLt ns ms)))) s):=by
 intro prog w A R s h
 obtain⟨hp,g,d,tk,os⟩:=s;obtain⟨hl,hb,h⟩:=h
 have f3:=AutoSeq1.sub_list_list
 wp_walk using fB hl,fB hb
 exact⟨pW plain_eq_loop _,uR entry_eq_loop (by
  rw[lZ plain_eq_loop _]
  exact j6 l b items items2 n n2 ns ms hi hj _ 0 rfl (cA _) (cA _) prog w A R _ ⟨hl,hb,h⟩)⟩
inductive Zk (A:dZ)(s:aI):List aC->List aC->Bool->Prop
 | nil:Zk A s [] [] false
 | same {x y:aC} {vs ws:List aC} {r:Bool}:IF A s x y true->Zk A s vs ws r->Zk A s (x::vs) (y::ws) r
 | diff {x y:aC} {vs ws:List aC} {r:Bool}:vs.length=ws.length->IF A s x y false->(∀(prog:bS) (w:cY) (E Q:aC->aI->Prop),Q (.bool r) s->wpAny (model prog w) A (richCompare .Lt x y) Q E s)->Zk A s (x::vs) (y::ws) r
theorem Zk.len {A:dZ}{s:aI}{vs ws:List aC}{r:Bool}(h:Zk A s vs ws r):vs.length=ws.length:=by
 induction h with
 | nil=>rfl
 | same _ _ ih=>simp[ih]
 | diff hl _ _=>simp[hl]
theorem Gw (l b:Addr)(items items2:Array aC)(n n2:Nat)(dd dd2:Option Addr)(sl sl2:Array (Option aC))(r:Bool):
  Meets (Builtin.«tuple.__lt__» ⟨[.ref l,.ref b],[]⟩)
   (λA R s=>s.heap.get? l=some { cls:=.type "tuple",dict:=dd,data:=.seq items n,slots:=sl }/\s.heap.get? b=some { cls:=.type "tuple",dict:=dd2,data:=.seq items2 n2,slots:=sl2 }/\Zk A.in1 s items.toList items2.toList r/\
    R (.ok (.ret (.bool r))) s):=
 .of_wp λprog w A R s h=>by
  obtain⟨hp,g,d,tk,os⟩:=s;obtain⟨hl,hb,ht,h⟩:=h
  have f2:=AutoSeq1.sub_tuple_tuple
  have z1:items.size=items2.size:=by simpa using ht.len
  wp_walk using fB hl,fB hb,wpAny_forIn_list _ (λuL b s'=>b.1=none/\s'=⟨hp,g,d,tk,os⟩/\∃(vs ws:List aC),uL=vs.zip ws/\Zk A.in1 ⟨hp,g,d,tk,os⟩ vs ws r) _
  case turn=>
   rintro⟨y,x⟩ uL b s' ⟨hb',rfl,vs,ws,hz,ht'⟩
   cases ht' with
   | nil=>cases hz
   | same he ht2=>
    rw[dH] at hz
    injection hz with hyx hrest
    injection hyx with hy hx
    subst hy hx
    refine aD (he prog w _ _ ?_)
    wp_walk
    exact⟨rfl,rfl,_,_,hrest,ht2⟩
   | diff hl he hc=>
    rw[dH] at hz
    injection hz with hyx hrest
    injection hyx with hy hx
    subst hy hx
    refine aD (he prog w _ _ ?_)
    have hri:=hc prog w
    wp_walk using hri
    exact⟨_,rfl,h⟩
  case fin=>
   rintro⟨b1,b2⟩ s' ⟨hb',rfl,vs,ws,hz,ht'⟩
   simp only at hb'
   subst hb'
   have hr:r=false:=by
    cases ht' with
    | nil=>rfl
    | same _ _=>rw[dH] at hz;cases hz
    | diff _ _ _=>rw[dH] at hz;cases hz
   subst hr
   wp_walk
   exact⟨_,rfl,by simpa[Builtin.Tuple.tupleCompareSizes,z1] using h⟩
  case h=>
   exact⟨rfl,rfl,items.toList,items2.toList,rfl,ht⟩
end
end
section
open HT (lexLt)
theorem UL:∀a:List Int,lexLt a a=false
 | []=>rfl
 | x::a=>by rw[HT.lexLt_cons,if_pos rfl,UL a]
theorem QK:∀{a b c:List Int},lexLt a b=true->lexLt b c=true->lexLt a c=true
 | [],[],_,h,_=>by simp[HT.lexLt] at h
 | [],_::_,[],_,h=>by simp[HT.lexLt] at h
 | [],_::_,_::_,_,_=>rfl
 | _::_,[],_,h,_=>by simp[HT.lexLt] at h
 | _::_,_::_,[],_,h=>by simp[HT.lexLt] at h
 | x::a,y::b,z::c,h1,h2=>by
  rw[HT.lexLt_cons] at h1 h2 ⊢
  by_cases e1:x=y
  ·subst e1
   rw[if_pos rfl] at h1
   by_cases e2:x=z
   ·subst e2
    rw[if_pos rfl] at h2 ⊢
    exact QK h1 h2
   ·rw[if_neg e2] at h2 ⊢
    exact h2
  ·rw[if_neg e1,decide_eq_true_eq] at h1
   by_cases e2:y=z
   ·subst e2
    rw[if_neg e1]
    exact decide_eq_true h1
   ·rw[if_neg e2,decide_eq_true_eq] at h2
    rw[if_neg (by omega)]
    exact decide_eq_true (by omega)
def zM (r q:List Int×List Int):Bool:=if r.1=q.1 then lexLt r.2 q.2 else lexLt r.1 q.1
theorem D0 (r:List Int×List Int):zM r r=false:=by unfold zM;rw[if_pos rfl,UL]
theorem Wf {a b c:List Int×List Int}(h1:zM a b=true)(h2:zM b c=true):zM a c=true:=by
 unfold zM at h1 h2 ⊢
 by_cases e1:a.1=b.1
 ·rw[if_pos e1] at h1
  by_cases e2:b.1=c.1
  ·rw[if_pos e2] at h2
   rw[if_pos (e1.trans e2)]
   exact QK h1 h2
  ·rw[if_neg e2] at h2
   rw[if_neg (λz=>e2 (e1.symm.trans z)),e1]
   exact h2
 ·rw[if_neg e1] at h1
  by_cases e2:b.1=c.1
  ·rw[if_neg (λz=>e1 (z.trans e2.symm)), <-e2]
   exact h1
  ·rw[if_neg e2] at h2
   have h3:=QK h1 h2
   by_cases e3:a.1=c.1
   ·rw[e3,UL] at h3;cases h3
   ·rw[if_neg e3];exact h3
theorem HD {bt:Nat->Nat->Bool}(irr:∀i,bt i i=false)(tr:∀i j k,bt i j=true->bt j k=true->bt i k=true):∀n j,j<=n->bt j (argBest bt n)=false
 | 0,j,h=>by
  have:j=0:=by omega
  subst this
  exact irr 0
 | n+1,j,h=>by
  unfold argBest
  have ih:=HD irr tr n
  by_cases c:bt (n+1) (argBest bt n)=true
  ·rw[if_pos c]
   by_cases e:j=n+1
   ·rw[e];exact irr _
   ·cases z:bt j (n+1) with
    | false=>rfl
    | true=>
     have:=tr _ _ _ z c
     rw[ih j (by omega)] at this;cases this
  ·rw[if_neg c]
   by_cases e:j=n+1
   ·rw[e]
    cases z:bt (n+1) (argBest bt n) with
    | false=>rfl
    | true=>exact absurd z c
   ·exact ih j (by omega)
abbrev dI (l:List Int):PyData:=.list (l.map gP)
theorem Fj {K:PySem.W.Frag}{H:Hp}:∀l:List Int,OY K H (l.map V.int) (l.map gP)
 | []=>.nil
 | c::l=>.cons (.int _) (Fj l)
theorem YC:∀l:List Int,lY (l.map gP)=true
 | []=>rfl
 | c::l=>by
  show(N2 (gP c)&&lY _)=true
  rw[YC l];rfl
theorem Fk:∀l:List Int,gX (l.map gP)<=1
 | []=>by decide
 | c::l=>by
  show max (yC (gP c)) (gX _)<=1
  have:=Fk l
  have e:yC (gP c)=0:=rfl
  omega
theorem Jq:∀l m:List Int,P4 (l.map gP) (m.map gP)=decide (l=m)
 | [],[]=>rfl
 | [],_::_=>rfl
 | _::_,[]=>rfl
 | x::l,y::m=>by
  rw[aJ,aJ,P4,Jq l m]
  show((x==y)&&_)=_
  rw[cZ]
  simp
theorem V1 (l m:List Int):RH (dI l) (dI m)=decide (l=m):=by
 unfold dI
 rw[RH]
 exact Jq l m
abbrev zC (H:Hp):List Addr->List (List Int×List Int)->Prop:=Paired λt r=>∃p,H t=some (.tup (r.1.map V.int++[.ref p]))/\H p=some (.lst (r.2.map V.int))
theorem Gy {A:dZ}{s:aI}{x y:aC}{w1 w2:List Int}(he:IF A s x y (decide (w1=w2)))(hc:∀(prog:bS) (w:cY) (E Q:aC->aI->Prop),Q (.bool (lexLt w1 w2)) s->wpAny (model prog w) A (richCompare .Lt x y) Q E s):
  ∀{vs ws:List aC} {k1 k2:List Int},IntsAre vs k1->IntsAre ws k2->k1.length=k2.length->Zk A s (vs++[x]) (ws++[y]) (zM (k1,w1) (k2,w2))
 | _,_,_,_,.nil,.nil,_=>by
  show Zk A s [x] [y] (lexLt w1 w2)
  by_cases e:w1=w2
  ·rw[decide_eq_true e] at he
   rw[e,UL]
   exact .same he .nil
  ·rw[decide_eq_false e] at he
   exact .diff rfl he hc
 | _,_,_,_,.nil,.cons _ _ _,h=>by simp at h
 | _,_,_,_,.cons _ _ _,.nil,h=>by simp at h
 | _,_,_,_,.cons (vs:=vs) (ns:=k1) a t h1,.cons (vs:=ws) (ns:=k2) c u h2,h=>by
  have ih:=Gy he hc h1 h2 (by simpa using h)
  have hl:(vs++[x]).length=(ws++[y]).length:=ih.len
  by_cases e:a=c
  ·have:zM (a::k1,w1) (c::k2,w2)=zM (k1,w1) (k2,w2):=by
    subst e
    unfold zM
    by_cases ek:k1=k2
    ·subst ek;simp
    ·simp[ek,HT.lexLt_cons]
   rw[this]
   refine .same ?_ ih
   have q:=(LX (A:=A) (s:=s) a t c u)
   have:(a==c)=true:=by simp[e]
   rw[this] at q
   exact q
  ·have:zM (a::k1,w1) (c::k2,w2)=decide (a < c):=by
    unfold zM
    simp[e,HT.lexLt_cons]
   rw[this]
   refine .diff hl ?_ (λprog w E Q q=>HT.rcLt_int A s a t c u prog w E Q q)
   have q:=(LX (A:=A) (s:=s) a t c u)
   have:(a==c)=false:=by simp[e]
   rw[this] at q
   exact q
section
variable {X:Cx}
theorem JA {ks:List Int}{p:Addr}{us:List aC}(h:eG (ks.map V.int++[.ref p]) us):∃vs,us=vs++[.ref p]/\IntsAre vs ks:=by
 induction ks generalizing us with
 | nil=>
  cases h with
  | cons r t=>
   cases t
   cases r
   exact⟨[],rfl,.nil⟩
 | cons k ks ih=>
  cases h with
  | cons r t=>
   obtain⟨tk,rfl⟩:=r
   obtain⟨vs,rfl,hi⟩:=ih t
   exact⟨_::vs,rfl,.cons k tk hi⟩
theorem D1 {pins:List (Addr×Obj)}{σ:L2.St}{H:Hp}{s:aI}{A:dZ}{t1 t2 p1 p2:Addr}{r1 r2:List Int×List Int}(I:Inv X pins σ H s)(hu:A.units+64 < cLine)(hl:r1.1.length=r2.1.length)
  (a1:H t1=some (.tup (r1.1.map V.int++[.ref p1]))) (b1:H p1=some (.lst (r1.2.map V.int))) (a2:H t2=some (.tup (r2.1.map V.int++[.ref p2]))) (b2:H p2=some (.lst (r2.2.map V.int)))
  (prog:bS) (w:cY) {E Q:aC->aI->Prop} (q:Q (.bool (zM r1 r2)) s):wpAny (model prog w) A (richCompare .Lt (.ref t1) (.ref t2)) Q E s:=by
 obtain⟨_,its1,v1,o1,e1,c1,n1,d1⟩:=I.hok t1 _ a1
 obtain⟨_,its2,v2,o2,e2,c2,n2,d2⟩:=I.hok t2 _ a2
 obtain⟨us1,rfl,i1⟩:=JA v1
 obtain⟨us2,rfl,i2⟩:=JA v2
 obtain⟨_,w1,m1,x1,f1⟩:=I.hok p1 _ b1
 obtain⟨_,w2,m2,x2,f2⟩:=I.hok p2 _ b2
 obtain⟨cls1,dd1,data1,sl1⟩:=o1
 obtain⟨cls2,dd2,data2,sl2⟩:=o2
 simp only at c1 d1 c2 d2
 subst c1 d1 c2 d2
 obtain⟨as1,rd1⟩:=Dp.reads I (dI r1.2) (.ref p1) (.ref p1) (.lst (.inl (.inl b1)) (Fj _)) rfl
 obtain⟨as2,rd2⟩:=Dp.reads I (dI r2.2) (.ref p2) (.ref p2) (.lst (.inl (.inl b2)) (Fj _)) rfl
 have hd1:=Fk r1.2
 have hd2:=Fk r2.2
 have e1d:yC (dI r1.2)=gX (r1.2.map gP)+1:=rfl
 have e2d:yC (dI r2.2)=gX (r2.2.map gP)+1:=rfl
 have hA:A.in1.units=A.units+1:=rfl
 have he:IF A.in1 s (.ref p1) (.ref p2) (decide (r1.2=r2.2)):=by
  rw[<-V1]
  exact SeqAt.eqAt_reads _ _ _ _ _ _ _ _ rd1 rd2 (YC _) (YC _) (by rw[e1d,e2d,hA];omega)
 have hc:∀(prog:bS) (w:cY) (E Q:aC->aI->Prop),Q (.bool (lexLt r1.2 r2.2)) s->wpAny (model prog w) A.in1 (richCompare .Lt (.ref p1) (.ref p2)) Q E s:=λprog w E Q q=>
  A7 (op:=.Lt) ⟨_,f1,rfl⟩ ⟨_,f2,rfl⟩ PySem.F.slot_list_lt PySem.F.entry_list_lt (PySem.F.args_list_lt_2 _ _) (Et p1 p2 _ _ m1 m2 r1.2 r2.2 (by simpa using x1.ints) (by simpa using x2.ints))
   ⟨f1,f2,show vY _≠Vb/\Q (.bool _) s from⟨(λx=>nomatch x),q⟩⟩ (by rw[hA];omega)
 exact A7 (op:=.Lt) ⟨_,e1,rfl⟩ ⟨_,e2,rfl⟩ PySem.F.slot_tuple_lt PySem.F.entry_tuple_lt (PySem.F.args_tuple_lt_2 _ _) (Gw t1 t2 _ _ n1 n2 dd1 dd2 sl1 sl2 (zM r1 r2))
  ⟨e1,e2,by simpa using Gy he hc i1 i2 hl,show vY _≠Vb/\Q (.bool _) s from⟨(λx=>nomatch x),q⟩⟩ (by omega)
def Q9 (K:PySem.W.Frag):List V->Hp->VK->Prop:=λvs H Q=>∃(a:Addr) (ts:List Addr) (rs:List (List Int×List Int)),vs=[V.ref a]/\dX K H a (ts.map V.ref)/\zC H ts rs/\ts≠[]/\(∀r∈rs,r.1.length=4)/\
 ∀(k:Nat) t r,ts[k]? =some t->rs[k]? =some r->(∀r'∈rs,zM r' r=false)->Q (.ref t) H
theorem zC.get {H:Hp}:∀{ts:List Addr} {rs:List (List Int×List Int)},zC H ts rs->∀{i:Nat} {t:Addr},ts[i]? =some t->∃r,rs[i]? =some r/\∃p,H t=some (.tup (r.1.map V.int++[.ref p]))/\H p=some (.lst (r.2.map V.int))
 | _,_,.nil,i,q,h=>by simp at h
 | _,_,.cons r t,0,q,h=>by simp at h;subst h;exact⟨_,rfl,r⟩
 | _,_,.cons r t,i+1,q,h=>by simpa using zC.get t (by simpa using h)
theorem m6 (hc:X.calm=true)(hu:X.A.units+100 < cLine):ED X (.builtin "min") (Q9 X.K):=by
 intro pins s σ H vs us Q I r h
 obtain⟨a,ts,rs,rfl,hs,hr,hne,h4,q⟩:=h
 obtain⟨its,rv,hl,_⟩:=I.list hs
 rw[eG.ref1 r]
 have hlen:its.length=ts.length:=by have:=rv.length;simpa using this.symm
 have hrl:ts.length=rs.length:=Paired.length hr
 have at_:∀{i:Nat} {v:aC},its[i]? =some v->∃t,ts[i]? =some t/\v=.ref t:=λ{i v} e=>by
  have hi:i < ts.length:=by rw[<-hlen];exact(bL.mp e).1
  obtain⟨u,e2,ru⟩:=rv.get (i:=i) (x:=.ref ts[i]) (by rw[aP,aE hi];rfl)
  rw[e] at e2
  cases e2
  cases ru
  exact⟨_,aE hi,rfl⟩
 refine F2 (I.ok.hd hc) hl.isList (by rw[hlen];exact zE.mpr hne) (λi j=>zM (rs.getD i ([],[])) (rs.getD j ([],[]))) (λi j vi vj h tk ei ej hk Q' E' q'=> ?_) λv h' tk ev hk=> ?_
 ·obtain⟨t1,z1,rfl⟩:=at_ ei
  obtain⟨t2,z2,rfl⟩:=at_ ej
  obtain⟨r1,y1,p1,a1,b1⟩:=zC.get hr z1
  obtain⟨r2,y2,p2,a2,b2⟩:=zC.get hr z2
  have e1:rs.getD i ([],[])=r1:=by rw[aF,y1];rfl
  have e2:rs.getD j ([],[])=r2:=by rw[aF,y2];rfl
  rw[e1,e2] at q'
  have l1:=h4 r1 (aY y1)
  have l2:=h4 r2 (aY y2)
  exact D1 (I.kept (h':=h) (t':=tk) hk) (by show X.A.units+1+64 < cLine;omega) (by omega) a1 b1 a2 b2 _ _ q'
 ·obtain⟨t,z,rfl⟩:=at_ ev
  obtain⟨r,y,_⟩:=zC.get hr z
  refine⟨.ref t,H,I.kept hk,rfl,q _ t r z y λr' hr'=> ?_⟩
  obtain⟨j,hj,ej⟩:=RM hr'
  have m:=HD (bt:=λi j=>zM (rs.getD i ([],[])) (rs.getD j ([],[]))) (λi=>D0 _) (λi j k=>Wf) (its.length - 1) j (by omega)
  have e1:rs.getD j ([],[])=r':=by rw[aF,aE hj,ej];rfl
  have e2:rs.getD (argBest (λi j=>zM (rs.getD i ([],[])) (rs.getD j ([],[]))) (its.length - 1)) ([],[])=r:=by rw[aF,y];rfl
  simp only[e1,e2] at m
  exact m
end
end
def X7 (K:PySem.W.Frag)(a b:Addr):It:=
 ⟨λi H=>∃(xs ys:List V) (x y:V),dX K H a xs/\KH K H b ys/\xs[i]? =some x/\ys[i]? =some y,
  λi H v H'=>∃T x y,v=.ref T/\H T=none/\H'=L2.upd H T (.tup [x,y])/\(∀xs,dX K H a xs->xs[i]? =some x)/\∀ys,KH K H b ys->ys[i]? =some y,
  λi H=>∃xs ys:List V,dX K H a xs/\KH K H b ys/\(xs.length<=i\/ys.length<=i)⟩
theorem cb {h:Heap}{a:Addr}{its:Array aC}(x:IsTup h a its):h.IsTuple a its:=x
def YI (z TI TO i1 i2 a b:Addr)(i:Nat)(h:Heap):Prop:=Ny h z TI TO .none/\vB h TI (.ref i1) (.ref i2)/\(∃x y,vB h TO x y)/\h.IsListIter i1 a i/\h.IsTupleIter i2 b i
theorem YI.obj {z TI TO i1 i2 a b:Addr}{i:Nat}{h:Heap}(s:YI z TI TO i1 i2 a b i h):∀c∈[z,TI,TO,i1,i2],∃o,h.get? c=some o/\∀v,o.data≠ .cell v:=by
 obtain⟨hz,hTI,⟨x,y,hTO⟩,⟨o1,e1,_,d1⟩,⟨o2,e2,_,d2⟩⟩:=s
 simp only[xT]
 exact⟨⟨_,hz,λv q=>nomatch q⟩,⟨_,hTI,λv q=>nomatch q⟩,⟨_,hTO,λv q=>nomatch q⟩,⟨o1,e1,λv q=>by rw[d1] at q;cases q⟩,⟨o2,e2,λv q=>by rw[d2] at q;cases q⟩,λc h=>by cases h⟩
theorem YI.keep {z TI TO i1 i2 a b:Addr}{i:Nat}{h h':Heap}(s:YI z TI TO i1 i2 a b i h)(k:∀c∈[z,TI,TO,i1,i2],∀o,h.get? c=some o->h'.get? c=some o):YI z TI TO i1 i2 a b i h':=by
 obtain⟨hz,hTI,⟨x,y,hTO⟩,⟨o1,e1,r1⟩,⟨o2,e2,r2⟩⟩:=s
 simp only[xT] at k
 obtain⟨k1,k2,k3,k4,k5,_⟩:=k
 exact⟨k1 _ hz,k2 _ hTI,⟨x,y,k3 _ hTO⟩,⟨o1,k4 _ e1,r1⟩,⟨o2,k5 _ e2,r2⟩⟩
theorem Ru {P:bS}{w:cY}{K:PySem.W.Frag}{elts:List Expr}{kk:Nat}{tpos:Pos}{a b z TI TO i1 i2:Addr}(D:w9 z TI TO i1 i2 a b):YJ P w K (.Tuple elts kk tpos) (X7 K a b) [z,TI,TO,i1,i2] z (YI z TI TO i1 i2 a b) where
 mem:=by simp
 obj:=λi h st=>st.obj
 keep:=λi h h' st k=>st.keep k
 item:=by
  intro X hP hw hK hc i pins s σ H E I hf st hg
  subst hP hw hK
  have ob:=st.obj
  obtain⟨hz,hTI,⟨x0,y0,hTO⟩,h1,h2⟩:=st
  obtain⟨xs,ys,x,y,hqx,hqy,hx,hy⟩:=hg
  obtain⟨its,rv,p,_⟩:=I.list hqx
  obtain⟨its2,rv2,p2,_⟩:=I.tuple hqy
  obtain⟨u,hu,ru⟩:=rv.get hx
  obtain⟨u2,hu2,ru2⟩:=rv2.get hy
  have hh:X.A.in1.handled=none:=I.ok.hd hc
  have hu':its.toArray[i]? =some u:=by simpa using hu
  have hu2':its2.toArray[i]? =some u2:=by simpa using hu2
  have hzl:z < s.heap.objs.size:=bD hz
  refine Gm D (Gn hh (D.i1 a (by simp))) (On hh (D.i2 b (by simp))) hz hTI hTO ⟨h1,p.isList⟩ ⟨h2,cb p2⟩ (λv v2 h' e1 e2 z' TO' s1 s2 hT hk=> ?_) (λz=>by rw[hu',hu2'] at z;rcases z with z | z <;> cases z)
  rw[hu'] at e1
  rw[hu2'] at e2
  cases e1
  cases e2
  refine⟨_,rfl,Yv (s:={ s with heap:=h' }) z' λh'' z'' sb=> ?_⟩
  have hT2:h''.get? s.heap.objs.size=some { cls:=.type "tuple",data:=.seq #[u,u2] }:=(sb.2 _ (oO hzl)).trans hT
  have new:kH X.prog X.w (L2.upd H s.heap.objs.size (.tup [x,y])) h'' s.heap.objs.size (.tup [x,y]):=⟨by show 2<=sizeLine;decide,[u,u2],.cons ru (.cons ru2 .nil),⟨_,hT2,rfl,_,rfl⟩⟩
  have ap:∀{c:Addr},c ∉ [z,TI,TO,i1,i2]->c≠z/\c≠TO/\c≠i1/\c≠i2:=λh=>by simp at h;exact⟨h.1,h.2.2.1,h.2.2.2.1,h.2.2.2.2⟩
  have I1:Inv X pins σ (L2.upd H s.heap.objs.size (.tup [x,y])) { s with heap:=h'' }:=
   I.turnedNew (t':=s.toks) (ch:=[z,TI,TO,i1,i2]) (λc o hb q=>(sb.2 c (ap hb).1).trans (hk c o (ap hb).1 (ap hb).2.1 (ap hb).2.2.1 (ap hb).2.2.2 q)) hf (aU _) new
  have st':YI z TI TO i1 i2 a b (i+1) h'':=⟨z'',(sb.2 _ (D.z _ (by simp))).trans (hk _ _ (D.z _ (by simp)) (D.TO _ (by simp)) (D.i1 _ (by simp)) (D.i2 _ (by simp)) hTI),⟨u,u2,(sb.2 _ (D.z _ (by simp))).trans TO'⟩,s1.1.extBut sb.extBut (D.z _ (by simp)),s2.1.extBut sb.extBut (D.z _ (by simp))⟩
  refine⟨.ref s.heap.objs.size,_,I1,rfl,⟨_,x,y,rfl,I.hok.fresh (aU _),rfl,λl hl=>by rw[I.list_inj hl hqx];exact hx,λl hl=>by rw[I.tuple_inj hl hqy];exact hy⟩,st',λc hcm=> ?_⟩
  obtain⟨o,e,_⟩:=ob c hcm
  rw[aM (cJ (bD e))]
  exact(hf c hcm).1
 done:=by
  intro X hP hw hK hc i pins s σ H E I hf st hg
  subst hP hw hK
  obtain⟨hz,hTI,⟨x0,y0,hTO⟩,h1,h2⟩:=st
  obtain⟨xs,ys,hqx,hqy,hend⟩:=hg
  obtain⟨its,rv,p,_⟩:=I.list hqx
  obtain⟨its2,rv2,p2,_⟩:=I.tuple hqy
  have l1:=rv.length
  have l2:=rv2.length
  have hh:X.A.in1.handled=none:=I.ok.hd hc
  have ap:∀{c:Addr},c ∉ [z,TI,TO,i1,i2]->c≠z/\c≠TO/\c≠i1/\c≠i2:=λh=>by simp at h;exact⟨h.1,h.2.2.1,h.2.2.2.1,h.2.2.2.2⟩
  refine Gm D (Gn hh (D.i1 a (by simp))) (On hh (D.i2 b (by simp))) hz hTI hTO ⟨h1,p.isList⟩ ⟨h2,cb p2⟩ (λv v2 h' e1 e2 _ _ _ _ _ _=> ?_) λ_ h' hk=>⟨rfl,I.turnedL (t':=s.toks) (ch:=[z,TI,TO,i1,i2]) (λc o hb q=>hk c o (ap hb).1 (ap hb).2.1 (ap hb).2.2.1 (ap hb).2.2.2 q) hf⟩
  have e1:=(zY.mp e1).1
  have e2:=(zY.mp e2).1
  rw[bK] at e1 e2
  omega
 self:=λA i s Q E st h=>MF st.1 h
def z5 (K:PySem.W.Frag)(ta:TA):TI:=λσ H R=>ta σ H λvs H1=>∃a b xs ys,vs=[.ref a,.ref b]/\dX K H1 a xs/\KH K H1 b ys/\R (X7 K a b) H1
theorem Bn {n a b:Nat}(ha:a < n)(hb:b < n):(∀c∈[n+2,n+3,n,n+1,a,b],c≠n+4)/\(∀c∈[n+2,n,n+1,a,b],c≠n+3)/\(∀c∈[n+2,n+1,a,b],c≠n)/\(∀c∈[n+2,a,b],c≠n+1)/\∀c∈[n+4,n+2,n+3,n,n+1],n<=c:=by
 refine⟨?_,?_,?_,?_,?_⟩ <;> intro c h <;> simp only[bN,O1,or_false] at h <;> omega
theorem Sq {n a b:Nat}(ha:a < n)(hb:b < n):w9 (n+4) (n+2) (n+3) n (n+1) a b:=
 have h:=Bn ha hb
 ⟨h.1,h.2.1,h.2.2.1,h.2.2.2.1⟩
theorem i0 {X:Cx}{e e2:Expr}{ta:TA}{p pos tpos:Pos}{elts:List Expr}{kk:Nat}(hg:Gl X "zip")(hm:X.mg "zip"=none)(ha:PA X [e,e2] ta)
  (hs:starEach [e,e2] X.env=(false,eval e X.env)::starEach [e2] X.env:=by rfl) (hpl:(backTo pos (starEach [e2] X.env)).any (·.1)=false:=by rfl):PI X (.Tuple elts kk tpos) (.Call (.Name "zip" p) [e,e2] [] pos) (z5 X.K ta):=by
 intro pins s σ H R I h
 refine P5 (xO I hg hm Cr (eS (kC (ha pos pins s σ H _ I h) λus s1 ⟨vs,H1,I1,r1,a,b,xs,ys,ex,hqx,hqy,q⟩=> ?_) hs hpl))
 subst ex
 rcases r1 with _ | ⟨r,_ | ⟨r',_ | _⟩⟩
 cases r
 cases r'
 obtain⟨its,rv,p1,_⟩:=I1.list hqx
 obtain⟨its2,rv2,p2,_⟩:=I1.tuple hqy
 have lb:b < s1.heap.objs.size:=by obtain⟨_,e,_⟩:=p2;exact bD e
 refine Nj p1.isList (cb p2) λh' hz hTI hTO h1 h2 hk=>MF hz ?_
 refine⟨s1.heap.objs.size+4,[s1.heap.objs.size+4,s1.heap.objs.size+2,s1.heap.objs.size+3,s1.heap.objs.size,s1.heap.objs.size+1],_,_,H1,rfl,I1.kept (t':=s1.toks) hk,Ru (Sq p1.lt lb),⟨hz,hTI,⟨_,_,hTO⟩,h1,h2⟩,λc hcm=> ?_,q⟩
 have hle:s1.heap.objs.size<=c:=(Bn p1.lt lb).2.2.2.2 c hcm
 exact I1.fpOk hle (I1.hok.fresh hle)
theorem U8 {k:Nat}{A:dZ}(hr:oJ k A):A.units+100 < cLine:=by have:=hr.un;omega
section
variable {X:Cx}{K:PySem.W.Frag}
theorem NK {es:List Expr}{k:Nat}{t:A5}{n:Nat}{pos:Pos}(h:X.K=K)(hc:X.calm=true)(hs:W9 X es t)(hn:(assignEach es X.env).length=n:=by rfl)(hst:(assignEach es X.env).findIdx? (·.1)=none:=by rfl):PG X (.Tuple es k pos) (I0 K n t):=h ▸ WG hc hs hn hst
def ai (K:PySem.W.Frag)(neg:Bool):R2:=λx y H Q=>∃(a b:Addr) (xs:List V),x=.ref a/\y=.ref b/\dX K H a xs/\H b=some (.lst [])/\Q (.bl (xs.isEmpty != neg)) H
theorem Mn (hu:X.A.units+64 < cLine):PD X (compareOp .Eq) (ai X.K false):=by
 intro pins s σ H x y v u Q I rx ry h
 obtain⟨a,b,xs,rfl,rfl,ha,hb,q⟩:=h
 cases xs with
 | nil=>exact E7 hu pins s σ H (.ref a) (.ref b) v u Q I rx ry ⟨.list [],.list [],.lst ha .nil,.lst (dX.of hb) .nil,rfl,rfl,q⟩
 | cons z zs=>
  cases rx
  cases ry
  obtain⟨its,rv,p,_⟩:=I.list ha
  obtain⟨its2,rv2,p2,_⟩:=I.list (dX.of (K:=X.K) hb)
  cases rv2
  have hl:=rv.length
  refine SeqAt.RcAt.lists_lengths p.isList p2.isList ?_ (by omega) X.prog X.w _ _ ⟨.bl false,H,I,rfl,q⟩
  simp only[bK,KM,bne_iff_ne]
  rw[<-hl]
  exact Nat.succ_ne_zero _
def x6 (K:PySem.W.Frag)(ta:TA):TE:=λσ H Q=>ta σ H λvs H1=>∃(a:Addr) (ns:List Int),vs=[.ref a]/\dX K H1 a (ns.map V.int)/\(ns=[]->Q .non H1)/\∀m,m∈ns->(∀y,y∈ns->m<=y)->Q (.int m) H1
theorem i4 {e:Expr}{ta:TA}{p pos kp cp:Pos}{j:Nat}(hc:X.calm=true)(hg:Gl X "min")(hm:X.mg "min"=none)(ha:PA X [e] ta)(hs:backTo pos (starEach [e] X.env)=(false,eval e X.env)::backTo pos (starEach [] X.env):=by rfl):
  PE X (.Call (.Name "min" p) [e] [⟨some "default",.Constant .none j cp,kp⟩] pos) (x6 X.K ta):=by
 intro pins s σ H Q I h
 refine jW (xO I hg hm boot_min ?_)
 refine callWith_kw (kC (ha pos pins s σ H _ I h) λus s1 ⟨vs,H1,I1,r1,q1⟩=> ?_) hs (by rw[hs];rfl)
 obtain⟨a,ns,rfl,hl,k0,k1⟩:=q1
 rw[eG.ref1 r1]
 refine kws_cons (Af (kws_nil ?_))
 obtain⟨its,rv,p,_⟩:=I1.list hl
 have hi:IntsAre its ns:=rv.ints
 have hlen:=hi.length
 refine WX (d:=.none) (I1.ok.hd hc) p.isList (λi j=>decide (ns.getD i 0 < ns.getD j 0)) (λi j vi vj h tk ei ej hk Q' E' q'=> ?_) λv h' tk ev hk=> ?_
 ·obtain⟨n,t,rfl,en⟩:=IntsAre.get hi ei
  obtain⟨m,t2,rfl,em⟩:=IntsAre.get hi ej
  have e1:ns.getD i 0=n:=by rw[aF,en];rfl
  have e2:ns.getD j 0=m:=by rw[aF,em];rfl
  rw[e1,e2] at q'
  exact HT.rcLt_int _ _ n t m t2 _ _ _ _ q'
 ·rcases ev with⟨e0,rfl⟩ | ⟨e0,ev⟩
  ·subst e0
   cases hi
   exact⟨.non,H1,I1.kept hk,rfl,k0 rfl⟩
  ·obtain⟨n,t,rfl,en⟩:=IntsAre.get hi ev
   refine⟨.int n,H1,I1.kept hk,⟨t,rfl⟩,k1 n (aY en) λy hy=> ?_⟩
   obtain⟨j,hj,ej⟩:=RM hy
   have mm:=HD (bt:=λi j=>decide (ns.getD i 0 < ns.getD j 0)) (λi=>by simp) (λi j k=>by simp only[decide_eq_true_eq];omega) (its.length - 1) j (by omega)
   have e1:ns.getD j 0=y:=by rw[aF,aE hj,ej];rfl
   have e2:ns.getD (argBest (λi j=>decide (ns.getD i 0 < ns.getD j 0)) (its.length - 1)) 0=n:=by rw[aF,en];rfl
   simp only[e1,e2,decide_eq_false_iff_not] at mm
   omega
end
structure B4 (K:PySem.W.Frag)(mg:Str->Option aC)(fd:bG)(P:Addr):Prop where
 code:∃c,fd.code=.ref c/\∀h,K.In h->PySem.W.CodeHd h c P
theorem O7 {P:bS}{w:cY}{K:PySem.W.Frag}{mg:Str->Option aC}{base:Heap}{x qual:Str}{st:Stmt}{f:Addr}{fd:bG}{N ps:List Str}{k:Nat}{sp:Sp}(F:B6 K x qual st f fd)(S:bV N ps (defScope st))(len:∀vs H Q E,sp vs H Q E->vs.length=ps.length)
  (hbody:∀(cdv:aC) (A:dZ) (outer:List Env) (s:aI) (H:Hp) (vs:List V) (Q:VK) (E:XK),fd.code=cdv->oJ k (A.deeper (envOfC qual (defScope st) s.heap.objs.size f cdv))->sp vs H Q E->
   ∃t,Ri (Jv Ut P w K mg base N qual (defScope st) f cdv A outer s H E).nox (defBody st) t/\t { nx:=λ_ H'=>Q .non H',rt:=Q } (start N vs) H):BL P w K mg base Ut (k+1) f fd ps sp:=by
 obtain⟨oc,od,kV,doc,pm,an,cdv,ct,osl,rfl,lk,hcd⟩:=F.ex
 refine z8 lk hcd S len λA outer s H vs Q E hr hsp=> ?_
 obtain⟨t,h,q⟩:=hbody cdv A outer s H vs Q E rfl hr hsp
 exact⟨t,h.nox,q⟩
abbrev NF:Stmt:=mO 10
abbrev VX:Stmt:=mO 11
abbrev zL:Stmt:=mO 12
abbrev QD:Stmt:=mO 13
abbrev NG:Stmt:=mO 14
abbrev VV:Stmt:=mO 15
abbrev xJ:Stmt:=mO 16
abbrev yQ:Stmt:=mO 17
abbrev RX:Stmt:=mO 18
abbrev vG:Stmt:=mO 19
abbrev DK:Stmt:=mO 22
abbrev FW:Stmt:=mO 23
abbrev DO:Stmt:=mO 24
abbrev DL:Stmt:=mO 31
abbrev FX:Stmt:=mO 32
abbrev VW:Stmt:=mO 33
abbrev RY:Stmt:=mO 34
abbrev ND:Stmt:=mO 35
abbrev FT:Stmt:=mO 36
abbrev JK:Stmt:=mO 37
abbrev RU:Stmt:=mO 38
abbrev JJ:Stmt:=mO 39
abbrev uI:Stmt:=fC (mO 41) 1
abbrev BY:Stmt:=mO 42
abbrev JQ:Stmt:=fC (mO 44) 1
abbrev JP:Stmt:=fC (mO 44) 2
abbrev RZ:Stmt:=mO 45
abbrev FU:Stmt:=mO 46
abbrev Hs:Stmt:=mO 47
abbrev zK:Stmt:=mO 48
abbrev Md:Stmt:=mO 49
abbrev FV:Stmt:=mO 50
abbrev JI:Stmt:=mO 51
abbrev DM:Stmt:=mO 52
abbrev pF:Stmt:=mO 53
abbrev DN:Stmt:=mO 54
abbrev Bb:Stmt:=mO 55
abbrev RV:Stmt:=mO 57
abbrev fW:Stmt:=mO 58
abbrev tV:Stmt:=mO 59
abbrev mZ:Stmt:=fC (mO 61) 1
abbrev oS:Stmt:=fC (mO 61) 2
abbrev FY:Stmt:=fC (mO 61) 3
abbrev SC:Stmt:=fC (mO 61) 4
abbrev SB:Stmt:=fC (mO 61) 5
abbrev yR:Stmt:=mO 62
abbrev DP:Stmt:=mO 65
abbrev Ba:Stmt:=mO 66
abbrev sH:Stmt:=mO 68
abbrev FS:Stmt:=mO 69
abbrev qJ:Stmt:=mO 70
abbrev AL:Stmt:=mO 71
abbrev RW:Stmt:=mO 72
abbrev oR:Stmt:=fC (mO 73) 1
abbrev kX:Stmt:=fC (mO 73) 2
abbrev vU:Stmt:=fC (mO 73) 3
abbrev AM:Stmt:=fC (mO 73) 4
abbrev lH:Stmt:=fC (mO 73) 5
abbrev JL:Stmt:=mO 74
abbrev yU:Stmt:=fC (mO 77) 1
abbrev AN:Stmt:=fC (mO 77) 2
abbrev DQ:Stmt:=fC (mO 77) 3
abbrev oT:Stmt:=fC (mO 77) 4
abbrev NH:Stmt:=fC (mO 77) 5
abbrev SE:Stmt:=fC (mO 77) 6
abbrev VY:Stmt:=fC (mO 77) 7
abbrev AO:Stmt:=fC (mO 77) 8
abbrev yV:Stmt:=fC (mO 77) 9
abbrev yT:Stmt:=fC (mO 84) 1
abbrev uJ:Stmt:=fC (mO 84) 2
abbrev yS:Stmt:=fC (mO 84) 3
abbrev uK:Stmt:=fC (mO 84) 4
abbrev JM:Stmt:=mO 85
abbrev Bc:Stmt:=mO 86
abbrev SA:Stmt:=fC (mO 41) 0
abbrev JR:Stmt:=fC (mO 44) 0
abbrev SD:Stmt:=fC (mO 61) 0
abbrev JS:Stmt:=fC (mO 64) 0
abbrev JN:Stmt:=fC (mO 73) 0
abbrev SF:Stmt:=fC (mO 77) 0
abbrev JO:Stmt:=fC (mO 84) 0
set_option genInjectivity false
set_option genSizeOf false
structure Ad where
 nB:Addr
 oY:Addr
 lL:Addr
 wI:Addr
 nF:Addr
 uH:Addr
 iW:Addr
 iL:Addr
 pG:Addr
 iX:Addr
 iZ:Addr
 rG:Addr
 jB:Addr
 jA:Addr
 pI:Addr
 pT:Addr
 mI:Addr
 oU:Addr
 jX:Addr
 lK:Addr
 qT:Addr
 mS:Addr
 fI:Addr
 mY:Addr
 iP:Addr
 iO:Addr
 rD:Addr
 iE:Addr
 HE:Addr
 jG:Addr
 fits:Addr
 lJ:Addr
 mR:Addr
 kE:Addr
 iF:Addr
 kF:Addr
 yM:Addr
 nR:Addr
 eF:Addr
 jF:Addr
 fH:Addr
 gA:Addr
 jZ:Addr
 rN:Addr
 rM:Addr
 rH:Addr
 kG:Addr
 yL:Addr
 iM:Addr
 lI:Addr
 gU:Addr
 jE:Addr
 qV:Addr
 fZ:Addr
 fT:Addr
 gK:Addr
 jH:Addr
 fY:Addr
 mU:Addr
 iQ:Addr
 jK:Addr
 jC:Addr
 gB:Addr
 lT:Addr
 rP:Addr
 uY:Addr
 jL:Addr
 iR:Addr
 iN:Addr
 eA:Addr
 fO:Addr
 fJ:Addr
 mV:Addr
 answers:Addr
 nU:Addr
 kJ:Addr
 nX:Addr
 kK:Addr
 lM:Addr
 pL:Addr
 lN:Addr
 aV:Addr
 aW:Addr
 bT:Addr
 cQ:Addr
 bX:Addr
 cD:Addr
 cI:Addr
 Xr:Addr
 Ez:Addr
 XE:Addr
 tabP:Addr
structure Fd where
 nB:bG
 oY:bG
 lL:bG
 wI:bG
 nF:bG
 uH:bG
 iW:bG
 iL:bG
 pG:bG
 iX:bG
 iZ:bG
 rG:bG
 jB:bG
 jA:bG
 pI:bG
 pT:bG
 mI:bG
 oU:bG
 jX:bG
 lK:bG
 qT:bG
 mS:bG
 fI:bG
 mY:bG
 iP:bG
 iO:bG
 rD:bG
 iE:bG
 HE:bG
 jG:bG
 fits:bG
 lJ:bG
 mR:bG
 kE:bG
 iF:bG
 kF:bG
 yM:bG
 nR:bG
 eF:bG
 jF:bG
 fH:bG
 gA:bG
 jZ:bG
 rN:bG
 rM:bG
 rH:bG
 kG:bG
 yL:bG
 iM:bG
 lI:bG
 gU:bG
 jE:bG
 qV:bG
 fZ:bG
 fT:bG
 gK:bG
 jH:bG
 fY:bG
 mU:bG
 iQ:bG
 jK:bG
 jC:bG
 gB:bG
 lT:bG
 rP:bG
 uY:bG
 jL:bG
 iR:bG
 iN:bG
 eA:bG
 fO:bG
 fJ:bG
 mV:bG
 answers:bG
 nU:bG
 kJ:bG
 nX:bG
 kK:bG
 lM:bG
 pL:bG
 lN:bG
set_option genInjectivity true
set_option genSizeOf true
structure kR (K:PySem.W.Frag)(mg:Str->Option aC)(A:Ad)(F:Fd):Prop where
 aV:EC K mg "Spot" A.aV ["letter","is_empty","before","behind","is_crossed","crossing_points","letter_fold","word_fold"]
 aW:EC K mg "Laying" A.aW ["x","y","down","word","rack"]
 bT:EC K mg "Line" A.bT ["number","down","spots","touching"]
 cQ:EC K mg "Branch" A.cQ ["nexts","word"]
 bX:EC K mg "Search" A.bX ["words","rack","tree","layable"]
 cD:EC K mg "Game" A.cD ["words","squares"]
 cI:EC K mg "Reader" A.cI ["calls","position"]
 nB:fR K mg "is_capital" NF ["byte"] A.nB F.nB
 oY:fR K mg "is_small" VX ["byte"] A.oY F.oY
 lL:fR K mg "all_letters" zL ["word"] A.lL F.lL
 wI:fR K mg "is_rack" QD ["rack"] A.wI F.wI
 nF:fR K mg "capital_of" NG ["letter"] A.nF F.nF
 uH:fR K mg "small_of" VV ["capital"] A.uH F.uH
 iW:fR K mg "without_case" xJ ["word"] A.iW F.iW
 iL:fR K mg "taken_from_rack" yQ ["letter"] A.iL F.iL
 pG:fR K mg "points_of" RX ["letter"] A.pG F.pG
 iX:fR K mg "points_of_all" vG ["letters"] A.iX F.iX
 iZ:fR K mg "fold_by_spots" DK ["spots"] A.iZ F.iZ
 rG:fR K mg "bonus_for" FW ["spots"] A.rG F.rG
 jB:fR K mg "count_of_word" DO ["spots","word"] A.jB F.jB
 jA:fR K mg "empty_squares" DL [] A.jA F.jA
 pI:fR K mg "all_empty" FX ["squares"] A.pI F.pI
 pT:fR K mg "on_board" VW ["x","y"] A.pT F.pT
 mI:fR K mg "letter_at" RY ["squares","x","y"] A.mI F.mI
 oU:fR K mg "put_letter" ND ["squares","x","y","letter"] A.oU F.oU
 jX:fR K mg "letters_from" FT ["squares","x","y","step_x","step_y"] A.jX F.jX
 lK:fR K mg "from_middle" JK ["x","y"] A.lK F.lK
 qT:fR K mg "word_fold" RU ["x","y"] A.qT F.qT
 mS:fR K mg "letter_fold" JJ ["x","y"] A.mS F.mS
 fI:fQ K A.aV "crossing_with" "Spot.crossing_with" uI ["self","letter"] A.fI F.fI
 mY:fR K mg "spots_from" BY ["squares","x","y","down","length"] A.mY F.mY
 iP:fQ K A.aW "x_of" "Laying.x_of" JQ ["self","place"] A.iP F.iP
 iO:fQ K A.aW "y_of" "Laying.y_of" JP ["self","place"] A.iO F.iO
 rD:fR K mg "is_proper" RZ ["laying"] A.rD F.rD
 iE:fR K mg "letter_under" FU ["squares","laying","place"] A.iE F.iE
 HE:fR K mg "agrees" Hs ["squares","laying","place"] A.HE F.HE
 jG:fR K mg "laid_places" zK ["squares","laying"] A.jG F.jG
 fits:fR K mg "fits" Md ["squares","laying"] A.fits F.fits
 lJ:fR K mg "is_from_rack" FV ["squares","laying"] A.lJ F.lJ
 mR:fR K mg "spots_under" JI ["squares","laying"] A.mR F.mR
 kE:fR K mg "crossing_word" DM ["squares","laying","place"] A.kE F.kE
 iF:fR K mg "crossing_words" pF ["squares","laying"] A.iF F.iF
 kF:fR K mg "covers_middle" DN ["laying"] A.kF F.kF
 yM:fR K mg "touches" Bb ["squares","laying"] A.yM F.yM
 nR:fR K mg "weight_of" RV ["spot","fold"] A.nR F.nR
 eF:fR K mg "weightiest_first" fW ["spots"] A.eF F.eF
 jF:fR K mg "told_from_rack" tV ["spots","word","rack"] A.jF F.jF
 fH:fQ K A.bT "touching_places" "Line.touching_places" mZ ["self","is_first"] A.fH F.fH
 gA:fQ K A.bT "next_touching" "Line.next_touching" oS ["self","start"] A.gA F.gA
 jZ:fQ K A.bT "is_free" "Line.is_free" FY ["self","place"] A.jZ F.jZ
 rN:fQ K A.bT "x_of" "Line.x_of" SC ["self","place"] A.rN F.rN
 rM:fQ K A.bT "y_of" "Line.y_of" SB ["self","place"] A.rM F.rM
 rH:fR K mg "all_lines" yR ["squares"] A.rH F.rH
 kG:fR K mg "branch_behind" DP ["branch","letter"] A.kG F.kG
 yL:fR K mg "tree_of" Ba ["words"] A.yL F.yL
 iM:fR K mg "layable_letters" sH ["rack"] A.iM F.iM
 lI:fR K mg "rack_without" FS ["rack","letter"] A.lI F.lI
 gU:fR K mg "ways_over_letter" qJ ["ways","letter"] A.gU F.gU
 jE:fR K mg "ways_by_laying" AL ["ways","letters"] A.jE F.jE
 qV:fR K mg "ways_over" RW ["ways","spot","letters"] A.qV F.qV
 fZ:fQ K A.bX "letters_for" "Search.letters_for" oR ["self","spot"] A.fZ F.fZ
 fT:fQ K A.bX "words_ending" "Search.words_ending" kX ["self","ways"] A.fT F.fT
 gK:fQ K A.bX "words_from" "Search.words_from" vU ["self","line","letters","start"] A.gK F.gK
 jH:fQ K A.bX "rank_of" "Search.rank_of" AM ["self","line","start","word"] A.jH F.jH
 fY:fQ K A.bX "ranks_along" "Search.ranks_along" lH ["self","line"] A.fY F.fY
 mU:fR K mg "best_laying" JL ["squares","words","rack"] A.mU F.mU
 iQ:fQ K A.cD "start_over" "Game.start_over" yU ["self"] A.iQ F.iQ
 jK:fQ K A.cD "take_word" "Game.take_word" AN ["self","word"] A.jK F.jK
 jC:fQ K A.cD "has_word" "Game.has_word" DQ ["self","word"] A.jC F.jC
 gB:fQ K A.cD "has_all_words" "Game.has_all_words" oT ["self","laying"] A.gB F.gB
 lT:fQ K A.cD "score" "Game.score" NH ["self","laying"] A.lT F.lT
 rP:fQ K A.cD "play" "Game.play" SE ["self","laying"] A.rP F.rP
 uY:fQ K A.cD "lay" "Game.lay" VY ["self","laying"] A.uY F.uY
 jL:fQ K A.cD "best_told" "Game.best_told" AO ["self","rack"] A.jL F.jL
 iR:fQ K A.cD "board_told" "Game.board_told" yV ["self"] A.iR F.iR
 iN:fQ K A.cI "has_more" "Reader.has_more" yT ["self"] A.iN F.iN
 eA:fQ K A.cI "read_number" "Reader.read_number" uJ ["self"] A.eA F.eA
 fO:fQ K A.cI "read_row" "Reader.read_row" yS ["self"] A.fO F.fO
 fJ:fQ K A.cI "read_laying" "Reader.read_laying" uK ["self"] A.fJ F.fJ
 mV:fR K mg "answer_next" JM ["game","reader"] A.mV F.mV
 answers:fR K mg "answers" Bc ["calls"] A.answers F.answers
 nU:fQ K A.aV "__init__" "Spot.__init__" SA ["self","squares","x","y","down"] A.nU F.nU
 kJ:fQ K A.aW "__init__" "Laying.__init__" JR ["self","x","y","down","word","rack"] A.kJ F.kJ
 nX:fQ K A.bT "__init__" "Line.__init__" SD ["self","squares","number","down"] A.nX F.nX
 kK:fQ K A.cQ "__init__" "Branch.__init__" JS ["self"] A.kK F.kK
 lM:fQ K A.bX "__init__" "Search.__init__" JN ["self","words","rack"] A.lM F.lM
 pL:fQ K A.cD "__init__" "Game.__init__" SF ["self"] A.pL F.pL
 lN:fQ K A.cI "__init__" "Reader.__init__" JO ["self","calls"] A.lN F.lN
 Pu:Mk K A.aV A.nU
 Br:Mk K A.aW A.kJ
 Pw:Mk K A.bT A.nX
 Bs:Mk K A.cQ A.kK
 Sr:Mk K A.bX A.lM
 j5:Mk K A.cD A.pL
 Ss:Mk K A.cI A.lN
 ON:∃t,mg "BLANK"=some (.int 63 t)
 HA:∃t,mg "CAPITAL_A"=some (.int 65 t)
 SX:∃t,mg "CAPITAL_Z"=some (.int 90 t)
 Ub:∃t,mg "SMALL_A"=some (.int 97 t)
 Ua:∃t,mg "SMALL_Z"=some (.int 122 t)
 SW:∃t,mg "CASE_STEP"=some (.int 32 t)
 xQ:∃t,mg "MOST_LETTERS"=some (.int 15 t)
 GY:∃t,mg "MOST_ON_RACK"=some (.int 7 t)
 Ka:A4 K mg "POINTS" A.Xr [1,3,3,2,1,4,2,4,1,8,5,1,3,1,1,3,10,1,1,1,1,4,4,8,4,10]
 QZ:∃t,mg "ALL_LAID_BONUS"=some (.int 50 t)
 vP:∃t,mg "SIZE"=some (.int 15 t)
 BG:∃t,mg "MIDDLE"=some (.int 7 t)
 wM:∃t,mg "EMPTY"=some (.int 46 t)
 OM:DictAt K mg "WORD_FOLDS" A.Ez [([0,7],3),([7,7],3),([0,0],2),([3,3],2),([4,4],2),([5,5],2),([6,6],2)]
 GZ:DictAt K mg "LETTER_FOLDS" A.XE [([2,2],3),([2,6],3),([1,1],2),([0,4],2),([1,5],2),([4,7],2)]
 Fq:∃t,mg "MOST_WORDS"=some (.int 4096 t)
 m8:∃t,mg "CLEAR"=some (.int 1 t)
 K7:∃t,mg "WORD"=some (.int 2 t)
 m7:∃t,mg "SCORE"=some (.int 3 t)
 K8:∃t,mg "PLAY"=some (.int 4 t)
 K9:∃t,mg "BEST"=some (.int 5 t)
 A2:mg "abs"=none
 Kg:mg "all"=none
 HC:mg "enumerate"=none
 sV:mg "len"=none
 Nr:mg "list"=none
 A1:mg "min"=none
 wN:mg "range"=none
 Nq:mg "reversed"=none
 Kf:mg "sorted"=none
 V5:mg "sum"=none
 Qy:mg "tuple"=none
 A0:mg "zip"=none
 lam:B4 K mg F.eF A.tabP
def cT (l:List Nat):List V:=l.map λ(c:Nat)=>V.int (c:Int)
def pV (l:List Nat):List V:=l.map λ(c:Nat)=>V.int (sq c)
section
variable {P:bS}{w:cY}{K:PySem.W.Frag}{mg:Str->Option aC}{A:Ad}{F:Fd}
theorem ZO:bV ["byte"] ["byte"] (defScope NF):=⟨rfl,rfl,rfl,by decide+kernel,rfl,by decide+kernel,by decide+kernel⟩
theorem JW (T:kR K mg A F):Ok P w K mg 1 A.nB F.nB ["byte"] (FP λvs _ r=>∃b:Int,vs=[.int b]/\r=.bl (mT b)):=λbase bb=>by
 refine T.nB.F.ok ZO (λvs H Q E h=> ?_) (λcdv Ar outer s H vs Q E hr h=> ?_)
 ·obtain⟨r,⟨b,rfl,_⟩,_⟩:=h
  rfl
 ·obtain⟨r,⟨b,rfl,rfl⟩,k⟩:=h
  refine⟨_,(aS (bU (GC GD GD (fF rfl T.HA) (pv 0) (fF rfl T.SX)))),?_⟩
  have k0:=k H (aZ.refl H)
  simp_arith
  split <;> rename_i h <;> simpa[mT,h] using k0
theorem Hr:bV ["byte"] ["byte"] (defScope VX):=⟨rfl,rfl,rfl,by decide+kernel,rfl,by decide+kernel,by decide+kernel⟩
theorem yY (T:kR K mg A F):Ok P w K mg 1 A.oY F.oY ["byte"] (FP λvs _ r=>∃b:Int,vs=[.int b]/\r=.bl (pU b)):=λbase bb=>by
 refine T.oY.F.ok Hr (λvs H Q E h=> ?_) (λcdv Ar outer s H vs Q E hr h=> ?_)
 ·obtain⟨r,⟨b,rfl,_⟩,_⟩:=h
  rfl
 ·obtain⟨r,⟨b,rfl,rfl⟩,k⟩:=h
  refine⟨_,(aS (bU (GC GD GD (fF rfl T.Ub) (pv 0) (fF rfl T.Ua)))),?_⟩
  have k0:=k H (aZ.refl H)
  simp_arith
  split <;> rename_i h <;> simpa[pU,h] using k0
abbrev YS:List Str:=["word","byte"]
theorem xI:bV ["word","byte"] ["word"] (defScope zL):=⟨rfl,rfl,rfl,by decide+kernel,rfl,by decide+kernel,by decide+kernel⟩
def FM (K:PySem.W.Frag):Sp:=FP λvs H r=>∃(a:Addr) (l:List Int),vs=[.ref a]/\dX K H a (l.map V.int)/\l.length<=sizeLine/\r=.bl (l.all λb=>mT b || pU b)
theorem DB {K:PySem.W.Frag}{H:Hp}{Q:VK}{E:XK}{a:Addr}{l:List Int}(h:dX K H a (l.map V.int))(hz:l.length<=sizeLine)(k:∀H',aZ H H'->Q (.bl (l.all λb=>mT b || pU b)) H'):FM K [.ref a] H Q E:=⟨_,⟨a,l,rfl,h,hz,rfl⟩,k⟩
theorem GH (T:kR K mg A F):Ok P w K mg 2 A.lL F.lL ["word"] (FM K):=λbase bb=>by
 refine T.lL.F.ok xI (λvs H Q E h=> ?_) (λcdv Ar outer s H vs Q E hr h=> ?_)
 ·obtain⟨r,⟨a,l,rfl,_⟩,_⟩:=h
  rfl
 ·obtain⟨r,⟨a,l,rfl,hl,hz,rfl⟩,k⟩:=h
  refine⟨_,(aS (bU (eQ (XW rfl) (by rfl) T.Kg Vf (aB (tI rfl xI.nd (iY (pv 0)) (fN (N:=YS) (sc:=defScope zL) (own:=[("byte",1)]) (by decide+kernel)) (λ_ _ _ _ _=>(dG (i:=1) xI.nd rfl (cB rfl))) (λ_ _ _ _ _=>oE) (λ_ _ _ _ _=>(Ik (oF T.nB (JW T base bb) hr (aB (pv 1) aL)) (LD (oF T.oY (yY T base bb) hr (aB (pv 1) aL)))))) aL)))),?_⟩
  simp_arith
  refine Ux (xs:=l) V.int (λb=>some (.bl (mT b || pU b))) (Ld H a) (λR h=>h _ _ ⟨rfl,rfl⟩) (λa' H1 c=>by rw[c.1,c.2];exact hl) hz ?_ ?_
  ·rintro _ _ D ⟨rfl,rfl⟩ hD i x H' acc Nx hx e1 e2 e3 k2
   simp_arith
   intro H2 s2
   split
   ·rename_i h
    exact rZ.yes (by simpa[h] using k2) e2 e3 s2
   ·rename_i h
    intro H3 s3
    exact rZ.yes (by simpa[h] using k2) e2 e3 (s2.trans s3)
  ·rintro _ _ D H' ⟨rfl,rfl⟩ hD e1 e2
   refine⟨D,l.map λb=>mT b || pU b,rfl,.inl (.inl ?_),?_⟩
   ·rw[e2,LQ,bR];rfl
   ·rw[YH];exact k _ e1
abbrev Oe:List Str:=["rack","byte"]
theorem KW:bV ["rack","byte"] ["rack"] (defScope QD):=⟨rfl,rfl,rfl,by decide+kernel,rfl,by decide+kernel,by decide+kernel⟩
def VF (K:PySem.W.Frag):Sp:=FP λvs H r=>∃(a:Addr) (l:List Int),vs=[.ref a]/\dX K H a (l.map V.int)/\l.length<=sizeLine/\r=.bl (nD l)
theorem RP {K:PySem.W.Frag}{H:Hp}{Q:VK}{E:XK}{a:Addr}{l:List Int}(h:dX K H a (l.map V.int))(hz:l.length<=sizeLine)(k:∀H',aZ H H'->Q (.bl (nD l)) H'):VF K [.ref a] H Q E:=⟨_,⟨a,l,rfl,h,hz,rfl⟩,k⟩
theorem WO (T:kR K mg A F):Ok P w K mg 2 A.wI F.wI ["rack"] (VF K):=λbase bb=>by
 refine T.wI.F.ok KW (λvs H Q E h=> ?_) (λcdv Ar outer s H vs Q E hr h=> ?_)
 ·obtain⟨r,⟨a,l,rfl,_⟩,_⟩:=h
  rfl
 ·obtain⟨r,⟨a,l,rfl,hl,hz,rfl⟩,k⟩:=h
  refine⟨_,(aO (gC (eB Wz (eQ eR (by rfl) T.sV PySem.boot_len (aB (pv 0) aL)) (fF rfl T.GY) (eZ _)) (aS (bU yX)) dN) (aS (bU (eQ (XW rfl) (by rfl) T.Kg Vf (aB (tI rfl KW.nd (iY (pv 0)) (fN (N:=Oe) (sc:=defScope QD) (own:=[("byte",1)]) (by decide+kernel)) (λ_ _ _ _ _=>(dG (i:=1) KW.nd rfl (cB rfl))) (λ_ _ _ _ _=>oE) (λ_ _ _ _ _=>(Ik (oF T.nB (JW T base bb) hr (aB (pv 1) aL)) (LD (uE sO (pv 1) (fF rfl T.ON) (eZ _)))))) aL))))),?_⟩
  simp_arith
  refine⟨_,.inl hl,?_⟩
  simp only[aA]
  split
  ·rename_i h
   have:=k H (aZ.refl H)
   have h':¬l.length<=7:=by omega
   simpa[nD,h'] using this
  ·rename_i h
   have h':l.length<=7:=by omega
   refine Ux (xs:=l) V.int (λb=>some (.bl (mT b || decide (b=63)))) (Ld H a) (λR h=>h _ _ ⟨rfl,rfl⟩) (λa' H1 c=>by rw[c.1,c.2];exact hl) hz ?_ ?_
   ·rintro _ _ D ⟨rfl,rfl⟩ hD i x H' acc Nx hx e1 e2 e3 k2
    simp_arith
    intro H2 s2
    split
    ·rename_i h
     exact rZ.yes (by simpa[h] using k2) e2 e3 s2
    ·rename_i h
     exact rZ.yes (by simpa[h] using k2) e2 e3 s2
   ·rintro _ _ D H' ⟨rfl,rfl⟩ hD e1 e2
    refine⟨D,l.map λb=>mT b || decide (b=63),rfl,.inl (.inl ?_),?_⟩
    ·rw[e2,LQ,bR];rfl
    ·rw[YH]
     have:=k _ e1
     simpa[nD,h'] using this
def OJ (b:Int):Int:=if pU b then b - 32 else b
theorem ZP:bV ["letter"] ["letter"] (defScope NG):=⟨rfl,rfl,rfl,by decide+kernel,rfl,by decide+kernel,by decide+kernel⟩
theorem JX (T:kR K mg A F):Ok P w K mg 2 A.nF F.nF ["letter"] (FP λvs _ r=>∃b:Int,vs=[.int b]/\r=.int (OJ b)):=λbase bb=>by
 refine T.nF.F.ok ZP (λvs H Q E h=> ?_) (λcdv Ar outer s H vs Q E hr h=> ?_)
 ·obtain⟨r,⟨b,rfl,_⟩,_⟩:=h
  rfl
 ·obtain⟨r,⟨b,rfl,rfl⟩,k⟩:=h
  refine⟨_,(aS (bU (kP (gI (oF T.oY (yY T base bb) hr (aB (pv 0) aL))) (eL sN (pv 0) (fF rfl T.SW)) (pv 0)))),?_⟩
  simp_arith
  intro H2 s2
  have k0:=k H2 s2
  split <;> rename_i h <;> simpa[OJ,h] using k0
theorem KU:bV ["letter"] ["letter"] (defScope yQ):=⟨rfl,rfl,rfl,by decide+kernel,rfl,by decide+kernel,by decide+kernel⟩
def UV (b:Int):Int:=if pU b then 63 else b
theorem LH (T:kR K mg A F):Ok P w K mg 2 A.iL F.iL ["letter"] (FP λvs _ r=>∃b:Int,vs=[.int b]/\r=.int (UV b)):=λbase bb=>by
 refine T.iL.F.ok KU (λvs H Q E h=> ?_) (λcdv Ar outer s H vs Q E hr h=> ?_)
 ·obtain⟨r,⟨b,rfl,_⟩,_⟩:=h
  rfl
 ·obtain⟨r,⟨b,rfl,rfl⟩,k⟩:=h
  refine⟨_,(aS (bU (kP (gI (oF T.oY (yY T base bb) hr (aB (pv 0) aL))) (fF rfl T.ON) (pv 0)))),?_⟩
  simp_arith
  intro H2 s2
  have k0:=k H2 s2
  split <;> rename_i h <;> simpa[UV,h] using k0
abbrev UA:List Str:=["word","letter"]
theorem vE:bV ["word","letter"] ["word"] (defScope xJ):=⟨rfl,rfl,rfl,by decide+kernel,rfl,by decide+kernel,by decide+kernel⟩
def DD (K:PySem.W.Frag):Sp:=λvs H Q _=>∃(a:Addr) (l:List Int),vs=[.ref a]/\dX K H a (l.map V.int)/\l.length<=sizeLine/\∀H' p,aZ H H'->H' p=some (.tup (l.map λb=>V.int (OJ b)))->Q (.ref p) H'
theorem tQ {K:PySem.W.Frag}{H:Hp}{Q:VK}{E:XK}{a:Addr}{l:List Int}(h:dX K H a (l.map V.int))(hz:l.length<=sizeLine)(k:∀H' p,aZ H H'->H' p=some (.tup (l.map λb=>V.int (OJ b)))->Q (.ref p) H'):DD K [.ref a] H Q E:=⟨a,l,rfl,h,hz,k⟩
theorem vI (T:kR K mg A F):Ok P w K mg 3 A.iW F.iW ["word"] (DD K):=λbase bb=>by
 refine T.iW.F.ok vE (λvs H Q E h=> ?_) (λcdv Ar outer s H vs Q E hr h=> ?_)
 ·obtain⟨a,l,rfl,_⟩:=h
  rfl
 ·obtain⟨a,l,rfl,hl,hz,k⟩:=h
  refine⟨_,(aS (bU (HS KF (by rfl) T.Qy boot_tuple (aB (tI rfl vE.nd (iY (pv 0)) (fN (N:=UA) (sc:=defScope xJ) (own:=[("letter",1)]) (by decide+kernel)) (λ_ _ _ _ _=>(dG (i:=1) vE.nd rfl (cB rfl))) (λ_ _ _ _ _=>oE) (λ_ _ _ _ _=>(oF T.nF (JX T base bb) hr (aB (pv 1) aL)))) aL)))),?_⟩
  simp_arith
  refine Ux (xs:=l) V.int (λb=>some (.int (OJ b))) (Ld H a) (λR h=>h _ _ ⟨rfl,rfl⟩) (λa' H1 c=>by rw[c.1,c.2];exact hl) hz ?_ ?_
  ·rintro _ _ D ⟨rfl,rfl⟩ hD i x H' acc Nx hx e1 e2 e3 k2
   simp_arith
   intro H2 s2
   exact rZ.yes k2 e2 e3 s2
  ·rintro _ _ D H' ⟨rfl,rfl⟩ hD e1 e2
   rw[LQ] at e2
   exact⟨D,rfl,_,.inl ⟨.inl (.inl e2),λp hp=>k _ _ (e1.trans (aZ.upd hp)) aK⟩⟩
theorem Dq:bV ["letter"] ["letter"] (defScope RX):=⟨rfl,rfl,rfl,by decide+kernel,rfl,by decide+kernel,by decide+kernel⟩
def Ib:List Int:=[1,3,3,2,1,4,2,4,1,8,5,1,3,1,1,3,10,1,1,1,1,4,4,8,4,10]
def WB (b:Int):Int:=if pU b then 0 else Ib.getD (b - 65).toNat 0
def MS:Sp:=FP λvs _ r=>∃b:Int,vs=[.int b]/\(mT b || pU b)=true/\r=.int (WB b)
theorem JB {H:Hp}{Q:VK}{E:XK}{b:Int}(hb:(mT b || pU b)=true)(k:∀H',aZ H H'->Q (.int (WB b)) H'):MS [.int b] H Q E:=⟨_,⟨b,rfl,hb,rfl⟩,k⟩
theorem NP (T:kR K mg A F):Ok P w K mg 2 A.pG F.pG ["letter"] MS:=λbase bb=>by
 refine T.pG.F.ok Dq (λvs H Q E h=> ?_) (λcdv Ar outer s H vs Q E hr h=> ?_)
 ·obtain⟨r,⟨b,rfl,_⟩,_⟩:=h
  rfl
 ·obtain⟨r,⟨b,rfl,hb,rfl⟩,k⟩:=h
  refine⟨_,(aS (bU (kP (gI (oF T.oY (yY T base bb) hr (aB (pv 0) aL))) dS (uM XF (Wt rfl T.Ka.mg) (eL sN (pv 0) (fF rfl T.HA)) (λ_ _=>rfl))))),?_⟩
  simp_arith
  intro H2 s2
  have k0:=k H2 s2
  split
  ·rename_i h
   simpa[WB,h] using k0
  ·rename_i h
   have hc:mT b=true:=by simpa[h] using hb
   simp only[mT,bH,decide_eq_true_eq] at hc
   obtain⟨n,hn,hlt⟩:∃n:Nat,b - 65=(n:Int)/\n < 26:=⟨(b - 65).toNat,by omega,by omega⟩
   have e:Ib[n]? =some (Ib.getD n 0):=by
    rw[aF,aE (show n < Ib.length from hlt)];rfl
   refine⟨_,_,_,.int (Ib.getD n 0),rfl,rfl,T.Ka.sq H2,uO (j:=n) hn ?_,?_⟩
   ·show(Ib.map V.int)[n]? =_
    rw[aP,e];rfl
   ·have e2:WB b=Ib.getD n 0:=by
     unfold WB
     rw[if_neg h,hn];rfl
    rw[<-e2];exact k0
end
theorem Q5 {a b:Int}{l:List Int}(h:l.Perm [a,b])(s:l.Pairwise (·<= ·)):l=[min a b,max a b]:=by
 have hl:l.length=2:=h.length_eq
 match l,hl with
 | [c,d],_=>
  have hcd:c<=d:=by
   rw[oM] at s
   exact s.1 d (by simp)
  have hc:c∈[a,b]:=h.mem_iff.mp (by simp)
  simp only[bN,O1,or_false] at hc
  have hs:c+d=a+b:=by
   rcases hc with e | e
   ·subst e
    have:=(Rk h).mem_iff (a:=d)
    simp at this
    omega
   ·subst e
    have:=(Rk (h.trans (List.Perm.swap _ _ _))).mem_iff (a:=d)
    simp at this
    omega
  have e1:c=min a b:=by omega
  have e2:d=max a b:=by omega
  rw[e1,e2]
section
variable {P:bS}{w:cY}{K:PySem.W.Frag}{mg:Str->Option aC}{A:Ad}{F:Fd}
theorem PZ:bV [] [] (defScope DL):=⟨rfl,rfl,rfl,by decide+kernel,rfl,by decide+kernel,by decide+kernel⟩
theorem AV (T:kR K mg A F):Ok P w K mg 1 A.jA F.jA [] (λvs H Q _=>vs=[]/\∀H' p,aZ H H'->H p=none->H' p=some (.lst (pV (cU 225 0)))->Q (.ref p) H'):=λbase bb=>by
 refine T.jA.F.ok PZ (λvs H Q E h=> ?_) (λcdv Ar outer s H vs Q E hr h=> ?_)
 ·obtain⟨rfl,_⟩:=h
  rfl
 ·obtain⟨rfl,k⟩:=h
  refine⟨_,(aS (bU (eL Wy (gJ (aB (fF rfl T.wM) aL)) (eL vH (fF rfl T.vP) (fF rfl T.vP))))),?_⟩
  simp_arith [↓rQ]
  refine⟨by rw[aX];decide,λp hp=>⟨.inl ⟨by decide,by decide⟩,p,225,[.int 46],rfl,rfl,aK,by decide,by decide,by rw[aX];decide,λq hq=> ?_⟩⟩
  have hq':H q=none:=(aZ.upd hp).free hq
  refine k _ _ ((aZ.upd hp).trans (aZ.upd hq)) hq' ?_
  rw[aK]
  rfl
abbrev Fy:List Str:=["squares","letter"]
theorem BW:bV ["squares","letter"] ["squares"] (defScope FX):=⟨rfl,rfl,rfl,by decide+kernel,rfl,by decide+kernel,by decide+kernel⟩
def MX (K:PySem.W.Frag):Sp:=FP λvs H r=>∃(a:Addr) (b:List Nat),vs=[.ref a]/\dX K H a (pV b)/\BM b/\r=.bl (b.all λc=>c==0)
theorem JC {K:PySem.W.Frag}{H:Hp}{Q:VK}{E:XK}{a:Addr}{b:List Nat}(h:dX K H a (pV b))(hb:BM b)(k:∀H',aZ H H'->Q (.bl (b.all λc=>c==0)) H'):MX K [.ref a] H Q E:=⟨_,⟨a,b,rfl,h,hb,rfl⟩,k⟩
theorem NQ (T:kR K mg A F):Ok P w K mg 1 A.pI F.pI ["squares"] (MX K):=λbase bb=>by
 refine T.pI.F.ok BW (λvs H Q E h=> ?_) (λcdv Ar outer s H vs Q E hr h=> ?_)
 ·obtain⟨r,⟨a,l,rfl,_⟩,_⟩:=h
  rfl
 ·obtain⟨r,⟨a,b,rfl,hl,hb,rfl⟩,k⟩:=h
  refine⟨_,(aS (bU (eQ (XW rfl) (by rfl) T.Kg Vf (aB (tI rfl BW.nd (iY (pv 0)) (fN (N:=Fy) (sc:=defScope FX) (own:=[("letter",1)]) (by decide+kernel)) (λ_ _ _ _ _=>(dG (i:=1) BW.nd rfl (cB rfl))) (λ_ _ _ _ _=>oE) (λ_ _ _ _ _=>(uE sO (pv 1) (fF rfl T.wM) (eZ _)))) aL)))),?_⟩
  simp_arith
  refine Ux (xs:=b) (λc=>V.int (sq c)) (λc=>some (.bl (c==0))) (Ld H a) (λR h=>h _ _ ⟨rfl,rfl⟩) (λa' H1 c=>by rw[c.1,c.2];exact hl) (by rw[hb.len,aX];decide) ?_ ?_
  ·rintro _ _ D ⟨rfl,rfl⟩ hD i x H' acc Nx hx e1 e2 e3 k2
   simp_arith
   have e:decide (sq x=46)=(x==0):=by
    rw[cZ]
    simp[VA (hb.let_ x (aY hx))]
   rw[e]
   exact rZ.yes k2 e2 e3 (aZ.refl _)
  ·rintro _ _ D H' ⟨rfl,rfl⟩ hD e1 e2
   refine⟨D,b.map λc=>c==0,rfl,.inl (.inl ?_),?_⟩
   ·rw[e2,LQ,bR];rfl
   ·rw[YH];exact k _ e1
theorem Hq:bV ["x","y"] ["x","y"] (defScope VW):=⟨rfl,rfl,rfl,by decide+kernel,rfl,by decide+kernel,by decide+kernel⟩
theorem GF (T:kR K mg A F):Ok P w K mg 1 A.pT F.pT ["x","y"] (FP λvs _ r=>∃x y:Int,vs=[.int x,.int y]/\r=.bl (kZ x y)):=λbase bb=>by
 refine T.pT.F.ok Hq (λvs H Q E h=> ?_) (λcdv Ar outer s H vs Q E hr h=> ?_)
 ·obtain⟨r,⟨x,y,rfl,_⟩,_⟩:=h
  rfl
 ·obtain⟨r,⟨x,y,rfl,rfl⟩,k⟩:=h
  refine⟨_,(aS (bU (Ww (GC GD WK dS (pv 0) (fF rfl T.vP)) (LD (GC GD WK dS (pv 1) (fF rfl T.vP)))))),?_⟩
  have k0:=k H (aZ.refl H)
  simp_arith
  unfold kZ at k0
  by_cases h1:0<=x <;> by_cases h2:x < 15 <;> by_cases h3:0<=y <;> simpa[h1,h2,h3] using k0
theorem Dr:bV ["squares","x","y"] ["squares","x","y"] (defScope RY):=⟨rfl,rfl,rfl,by decide+kernel,rfl,by decide+kernel,by decide+kernel⟩
def MT (K:PySem.W.Frag):Sp:=FP λvs H r=>∃(a:Addr) (b:List Nat) (x y:Int),vs=[.ref a,.int x,.int y]/\dX K H a (pV b)/\BM b/\r=.int (sq (aH b x y))
theorem uC {K:PySem.W.Frag}{H:Hp}{Q:VK}{E:XK}{a:Addr}{b:List Nat}{x y:Int}(h:dX K H a (pV b))(hb:BM b)(k:∀H',aZ H H'->Q (.int (sq (aH b x y))) H'):MT K [.ref a,.int x,.int y] H Q E:=⟨_,⟨a,b,x,y,rfl,h,hb,rfl⟩,k⟩
theorem wH (T:kR K mg A F):Ok P w K mg 2 A.mI F.mI ["squares","x","y"] (MT K):=λbase bb=>by
 refine T.mI.F.ok Dr (λvs H Q E h=> ?_) (λcdv Ar outer s H vs Q E hr h=> ?_)
 ·obtain⟨r,⟨a,b,x,y,rfl,_⟩,_⟩:=h
  rfl
 ·obtain⟨r,⟨a,b,x,y,rfl,hl,hb,rfl⟩,k⟩:=h
  refine⟨_,(aS (bU (kP (gI (oF T.pT (GF T base bb) hr (aB (pv 1) (aB (pv 2) aL)))) (uM qE (pv 0) (eL jR (eL vH (pv 2) (fF rfl T.vP)) (pv 1)) (λ_ _=>rfl)) (fF rfl T.wM)))),?_⟩
  simp_arith
  intro H2 s2
  have k0:=k H2 s2
  split
  ·rename_i h
   have h':0<=x/\x < 15/\0<=y/\y < 15:=by simpa[kZ,and_assoc] using h
   refine⟨.inr ⟨by decide,by decide⟩,?_⟩
   have e1:aH b x y=b.getD (x+15 * y).toNat 0:=by unfold aH;rw[if_pos h']
   obtain⟨n,hn,hlt⟩:∃n:Nat,y * 15+x=(n:Int)/\n < 225:=⟨(y * 15+x).toNat,by omega,by omega⟩
   have e2:(x+15 * y).toNat=n:=by omega
   have hlen:n < b.length:=by rw[hb.len];exact hlt
   refine⟨_,_,_,.int (sq (b.getD n 0)),rfl,rfl,s2.seq hl,uO (j:=n) hn ?_,?_⟩
   ·unfold pV
    rw[aP,aF,aE hlen];rfl
   ·rw[e1,e2] at k0;exact k0
  ·rename_i h
   have h':¬(0<=x/\x < 15/\0<=y/\y < 15):=by simpa[kZ,and_assoc] using h
   have e1:aH b x y=0:=by unfold aH;rw[if_neg h']
   rw[e1] at k0;exact k0
theorem pZ:bV ["squares","x","y","step_x","step_y","letters"] ["squares","x","y","step_x","step_y"] (defScope FT):=⟨rfl,rfl,rfl,by decide+kernel,rfl,by decide+kernel,by decide+kernel⟩
def DG (K:PySem.W.Frag):Sp:=λvs H Q _=>∃(a:Addr) (b:List Nat) (x y sx sy:Int),vs=[.ref a,.int x,.int y,.int sx,.int sy]/\dX K H a (pV b)/\BM b/\B7 sx sy/\
  ∀H' p,aZ H H'->H p=none->H' p=some (.lst (cT (nJ b sx sy 15 x y)))->Q (.ref p) H'
theorem AA {K:PySem.W.Frag}{H:Hp}{Q:VK}{E:XK}{a:Addr}{b:List Nat}{x y sx sy:Int}(h:dX K H a (pV b))(hb:BM b)(d:B7 sx sy)
  (k:∀H' p,aZ H H'->H p=none->H' p=some (.lst (cT (nJ b sx sy 15 x y)))->Q (.ref p) H'):DG K [.ref a,.int x,.int y,.int sx,.int sy] H Q E:=⟨a,b,x,y,sx,sy,rfl,h,hb,d,k⟩
theorem DR (T:kR K mg A F):Ok P w K mg 3 A.jX F.jX ["squares","x","y","step_x","step_y"] (DG K):=λbase bb=>by
 refine T.jX.F.ok pZ (λvs H Q E h=> ?_) (λcdv Ar outer s H vs Q E hr h=> ?_)
 ·obtain⟨a,b,x,y,sx,sy,rfl,_⟩:=h
  rfl
 ·obtain⟨a,b,x,y,sx,sy,rfl,hl,hb,d,k⟩:=h
  refine⟨_,(aO (dJ (i:=5) pZ.nd rfl (cB rfl) (gJ aL)) (aO (Ie eP (eB Iq (oF T.mI (wH T base bb) hr (aB (pv 0) (aB (pv 1) (aB (pv 2) aL)))) (fF rfl T.wM) (eZ _)) (aO (sJ (JU PySem.F.plainAttrs_list PySem.F.slot_list_append PySem.F.type_list_append QJ (pv 5) (aB (oF T.mI (wH T base bb) hr (aB (pv 0) (aB (pv 1) (aB (pv 2) aL)))) aL))) (aO (dJ (i:=1) pZ.nd rfl (cB rfl) (eL jR (pv 1) (pv 3))) (aS (dJ (i:=2) pZ.nd rfl (cB rfl) (eL jR (pv 2) (pv 4))))))) (aS (bU (pv 5))))),?_⟩
  simp_arith [↓rQ]
  refine⟨by rw[aX];decide,λp hp=> ?_⟩
  refine⟨λm σ H'=>∃(x' y':Int) (acc:List Nat),σ=[some (.ref a),some (.int x'),some (.int y'),some (.int sx),some (.int sy),some (.ref p)]/\aZ H H'/\H' p=some (.lst (cT acc))/\acc.length<=15/\
   acc++nJ b sx sy 15 x' y'=nJ b sx sy 15 x y/\m=DZ sx sy x' y',⟨_,x,y,[],rfl,aZ.upd hp,aK,by decide,rfl,rfl⟩,?_⟩
  rintro m σ H' ⟨x',y',acc,rfl,s1,hp',hacc,hrun,rfl⟩
  simp_arith
  refine uC (s1.seq hl) hb λH2 s2=> ?_
  simp_arith
  have h46:=VA (hb.at_ x' y')
  split
  ·rename_i h
   rw[h46] at h
   have hc:sq (aH b x' y')=(aH b x' y':Nat):=by unfold sq;rw[if_neg h]
   have hlen:acc.length < 15:=by
    have h1:=congrArg iI hrun
    have h2:=uD b sx sy 15 x y
    rw[bZ,Hv d h,cM] at h1
    omega
   refine⟨λσ' H3=>σ'=[some (.ref a),some (.int (x'+sx)),some (.int (y'+sy)),some (.int sx),some (.int sy),some (.ref p)]/\aZ H H3/\H3 p=some (.lst (cT (acc++[aH b x' y']))),?_,.inl ⟨rfl,_,dX.of (s2 _ _ hp')⟩,uC ((s1.trans s2).seq hl) hb λH3 s3=> ?_⟩
   ·rintro _ H3 ⟨rfl,s3,hp3⟩
    refine⟨_,?_,x'+sx,y'+sy,rfl,s3,_,hp3,?_,?_,rfl⟩
    ·have:=LV d h;omega
    ·rw[bZ,MB];omega
    ·rw[<-hrun,Hv d h,pP];rfl
   ·refine⟨_,s3 _ _ (s2 _ _ hp'),by rw[show(cT acc).length=acc.length from aA _,aX];omega,rfl,λc o e=> ?_,?_⟩
    ·rw[aM (bJ e hp)]
     exact s3 _ _ (s2 _ _ (s1 _ _ e))
    ·rw[aK,hc]
     unfold cT
     rw[cC];rfl
  ·rename_i h
   have h0:aH b x' y'=0:=by
    by_cases z:aH b x' y'=0
    ·exact z
    ·exact absurd (h46.mp (PJ.mp h)) z
   rw[d9 h0,eX] at hrun
   rw[hrun] at hp'
   exact k _ _ (s1.trans s2) hp (s2 _ _ hp')
theorem VO:bV ["x","y"] ["x","y"] (defScope JK):=⟨rfl,rfl,rfl,by decide+kernel,rfl,by decide+kernel,by decide+kernel⟩
theorem GG (T:kR K mg A F):Ok P w K mg 1 A.lK F.lK ["x","y"] (λvs H Q _=>∃(x y:Int),vs=[.int x,.int y]/\∀H' p,aZ H H'->H' p=some (.tup [.int (uQ x y).1,.int (uQ x y).2])->Q (.ref p) H'):=λbase bb=>by
 refine T.lK.F.ok VO (λvs H Q E h=> ?_) (λcdv Ar outer s H vs Q E hr h=> ?_)
 ·obtain⟨x,y,rfl,_⟩:=h
  rfl
 ·obtain⟨x,y,rfl,k⟩:=h
  refine⟨_,(aS (bU (HS KF (by rfl) T.Qy boot_tuple (aB (eQ Tt (by rfl) T.Kf boot_sorted (aB (gJ (aB (eQ Jz (by rfl) T.A2 boot_abs (aB (eL sN (pv 0) (fF rfl T.BG)) aL)) (aB (eQ Jz (by rfl) T.A2 boot_abs (aB (eL sN (pv 1) (fF rfl T.BG)) aL)) aL))) aL)) aL)))),?_⟩
  simp_arith [↓rQ,Pe]
  refine⟨by rw[aX];decide,λp hp=>⟨[((x - 7).natAbs:Int),((y - 7).natAbs:Int)],.inl (.inl ?_),by show 2 < 64;decide,λns p2 hns hss hp2=> ?_⟩⟩
  ·rw[aK]
   simp only[aJ,mL]
   have e1:(if x - 7 < 0 then -(x - 7) else x - 7)=((x - 7).natAbs:Int):=by split <;> omega
   have e2:(if y - 7 < 0 then -(y - 7) else y - 7)=((y - 7).natAbs:Int):=by split <;> omega
   rw[e1,e2]
  ·have e:=Q5 hns hss
   subst e
   refine⟨_,.inl ⟨.inl (.inl aK),λq hq=> ?_⟩⟩
   refine k _ _ (((aZ.upd hp).trans (aZ.upd hp2)).trans (aZ.upd hq)) ?_
   rw[aK]
   simp only[aJ,mL,uQ]
   have e1:min ((x - 7).natAbs:Int) ((y - 7).natAbs:Int)=((min (x - 7).natAbs (y - 7).natAbs:Nat):Int):=by omega
   have e2:max ((x - 7).natAbs:Int) ((y - 7).natAbs:Int)=((max (x - 7).natAbs (y - 7).natAbs:Nat):Int):=by omega
   rw[e1,e2]
theorem Dn:bV ["x","y"] ["x","y"] (defScope RU):=⟨rfl,rfl,rfl,by decide+kernel,rfl,by decide+kernel,by decide+kernel⟩
theorem Eh (T:kR K mg A F):Ok P w K mg 2 A.qT F.qT ["x","y"] (FP λvs H r=>∃(x y:Int),vs=[.int x,.int y]/\0<=x/\x < 15/\0<=y/\y < 15/\r=.int (fK x y)):=λbase bb=>by
 refine T.qT.F.ok Dn (λvs H Q E h=> ?_) (λcdv Ar outer s H vs Q E hr h=> ?_)
 ·obtain⟨r,⟨x,y,rfl,_⟩,_⟩:=h
  rfl
 ·obtain⟨r,⟨x,y,rfl,h1,h2,h3,h4,rfl⟩,k⟩:=h
  refine⟨_,(aS (bU (Im T.OM (KD hr) (Wt rfl T.OM.mg) (oF T.lK (GG T base bb) hr (aB (pv 0) (aB (pv 1) aL))) dS ⟨by rfl,by rfl,by rfl,by rfl⟩))),?_⟩
  simp_arith [Lu]
  intro H2 p s2 hp
  refine⟨[((uQ x y).1:Int),((uQ x y).2:Int)],hp,?_⟩
  have e:=Zt h1 h2 h3 h4
  have k0:=k _ s2
  rw[<-e] at k0
  rw[show∀o:Option Int,(o.map V.int).getD (V.int 1)=V.int (o.getD 1) from λo=>by cases o <;> rfl]
  exact k0
theorem VN:bV ["x","y"] ["x","y"] (defScope JJ):=⟨rfl,rfl,rfl,by decide+kernel,rfl,by decide+kernel,by decide+kernel⟩
theorem WN (T:kR K mg A F):Ok P w K mg 2 A.mS F.mS ["x","y"] (FP λvs H r=>∃(x y:Int),vs=[.int x,.int y]/\0<=x/\x < 15/\0<=y/\y < 15/\r=.int (cG x y)):=λbase bb=>by
 refine T.mS.F.ok VN (λvs H Q E h=> ?_) (λcdv Ar outer s H vs Q E hr h=> ?_)
 ·obtain⟨r,⟨x,y,rfl,_⟩,_⟩:=h
  rfl
 ·obtain⟨r,⟨x,y,rfl,h1,h2,h3,h4,rfl⟩,k⟩:=h
  refine⟨_,(aS (bU (Im T.GZ (KD hr) (Wt rfl T.GZ.mg) (oF T.lK (GG T base bb) hr (aB (pv 0) (aB (pv 1) aL))) dS ⟨by rfl,by rfl,by rfl,by rfl⟩))),?_⟩
  simp_arith [Lu]
  intro H2 p s2 hp
  refine⟨[((uQ x y).1:Int),((uQ x y).2:Int)],hp,?_⟩
  have e:=k7 h1 h2 h3 h4
  have k0:=k _ s2
  rw[<-e] at k0
  rw[show∀o:Option Int,(o.map V.int).getD (V.int 1)=V.int (o.getD 1) from λo=>by cases o <;> rfl]
  exact k0
end
def GS (x y d:Int)(aw ar:Addr):List (Str×V):=[("x",.int x),("y",.int y),("down",.int d),("word",.ref aw),("rack",.ref ar)]
theorem rT (x y d:Int)(aw ar:Addr):(GS x y d aw ar).lookup ("x":Str)=some (.int x):=rfl
theorem rS (x y d:Int)(aw ar:Addr):(GS x y d aw ar).lookup ("y":Str)=some (.int y):=rfl
theorem rV (x y d:Int)(aw ar:Addr):(GS x y d aw ar).lookup ("down":Str)=some (.int d):=rfl
theorem tE (x y d:Int)(aw ar:Addr):(GS x y d aw ar).lookup ("word":Str)=some (.ref aw):=rfl
theorem tF (x y d:Int)(aw ar:Addr):(GS x y d aw ar).lookup ("rack":Str)=some (.ref ar):=rfl
theorem lU (x y d:Int)(aw ar:Addr):(GS x y d aw ar).lookup ("x_of":Str)=none:=rfl
theorem lE (x y d:Int)(aw ar:Addr):(GS x y d aw ar).lookup ("y_of":Str)=none:=rfl
structure Ur (K:PySem.W.Frag)(C:Addr)(H:Hp)(p:Addr)(x y d:Int)(wd rk:List Nat)(dx aw ar:Addr):Prop where
 at_:H p=some (.ins C dx (GS x y d aw ar))
 w:dX K H aw (cT wd)
 r:dX K H ar (cT rk)
theorem Ur.same {K:PySem.W.Frag}{C:Addr}{H H':Hp}{p:Addr}{x y d:Int}{wd rk:List Nat}{dx aw ar:Addr}(h:Ur K C H p x y d wd rk dx aw ar)(e:aZ H H'):Ur K C H' p x y d wd rk dx aw ar:=⟨e _ _ h.at_,e.seq h.w,e.seq h.r⟩
section
variable {P:bS}{w:cY}{K:PySem.W.Frag}{mg:Str->Option aC}{A:Ad}{F:Fd}
theorem qM (T:kR K mg A F):fP K A.aW "x":=T.aW.no _ (by simp)
theorem qL (T:kR K mg A F):fP K A.aW "y":=T.aW.no _ (by simp)
theorem qN (T:kR K mg A F):fP K A.aW "down":=T.aW.no _ (by simp)
theorem rR (T:kR K mg A F):fP K A.aW "word":=T.aW.no _ (by simp)
theorem sQ (T:kR K mg A F):fP K A.aW "rack":=T.aW.no _ (by simp)
theorem VT:bV ["self","x","y","down","word","rack"] ["self","x","y","down","word","rack"] (defScope JR):=⟨rfl,rfl,rfl,by decide+kernel,rfl,by decide+kernel,by decide+kernel⟩
theorem GJ (T:kR K mg A F):Ok P w K mg 1 A.kJ F.kJ ["self","x","y","down","word","rack"] (λvs H Q _=>∃(p dx aw ar:Addr) (x y d:Int),vs=[.ref p,.int x,.int y,.int d,.ref aw,.ref ar]/\H p=some (.ins A.aW dx [])/\∀H',H' p=some (.ins A.aW dx (GS x y d aw ar))->(∀b o,H b=some o->b≠p->H' b=some o)->Q .non H'):=λbase bb=>by
 refine T.kJ.F.ok VT (λvs H Q E h=> ?_) (λcdv Ar outer s H vs Q E hr h=> ?_)
 ·obtain⟨p,dx,aw,ar,x,y,d,rfl,_⟩:=h
  rfl
 ·obtain⟨p,dx,aw,ar,x,y,d,rfl,hp,k⟩:=h
  refine⟨_,(aO (gO (pv 0) (pv 1) rfl) (aO (gO (pv 0) (pv 2) rfl) (aO (gO (pv 0) (pv 3) rfl) (aO (gO (pv 0) (pv 4) rfl) (aS (gO (pv 0) (pv 5) rfl)))))),?_⟩
  simp_arith [↓Be,hp,HO.ins.injEq,T.aW.cl,qM T,qL T,qN T,rR T,sQ T,aK,Dg]
  refine⟨by show 0 < 1000;decide,by show 1 < 1000;decide,by show 2 < 1000;decide,by show 3 < 1000;decide,by show 4 < 1000;decide,k _ (by rw[aK];rfl) λb o e hb=>by rw[aM hb];exact e⟩
theorem VS:bV ["self","place"] ["self","place"] (defScope JQ):=⟨rfl,rfl,rfl,by decide+kernel,rfl,by decide+kernel,by decide+kernel⟩
def Pa (C:Addr):Sp:=FP λvs H r=>∃(p dx aw ar:Addr) (x y d i:Int),vs=[.ref p,.int i]/\H p=some (.ins C dx (GS x y d aw ar))/\r=.int (bQ x y d i).1
theorem FA {C:Addr}{H:Hp}{Q:VK}{E:XK}{p dx aw ar:Addr}{x y d i:Int}(hp:H p=some (.ins C dx (GS x y d aw ar)))(k:∀H',aZ H H'->Q (.int (bQ x y d i).1) H'):Pa C [.ref p,.int i] H Q E:=⟨_,⟨p,dx,aw,ar,x,y,d,i,rfl,hp,rfl⟩,k⟩
theorem oW (T:kR K mg A F):Ok P w K mg 1 A.iP F.iP ["self","place"] (Pa A.aW):=λbase bb=>by
 refine T.iP.F.ok VS (λvs H Q E h=> ?_) (λcdv Ar outer s H vs Q E hr h=> ?_)
 ·obtain⟨r,⟨p,dx,aw,ar,x,y,d,i,rfl,_⟩,_⟩:=h
  rfl
 ·obtain⟨r,⟨p,dx,aw,ar,x,y,d,i,rfl,hp,rfl⟩,k⟩:=h
  refine⟨_,(aS (bU (kP (eB sO (bY (pv 0) rfl) dS (eZ _)) (bY (pv 0) rfl) (eL jR (bY (pv 0) rfl) (pv 1))))),?_⟩
  have k0:=k _ (aZ.refl H)
  simp_arith [↓eY,hp,HO.ins.injEq,T.aW.cl,qM T,qL T,qN T,rT,rS,rV]
  split <;> rename_i h <;> simpa[bQ,h] using k0
theorem VR:bV ["self","place"] ["self","place"] (defScope JP):=⟨rfl,rfl,rfl,by decide+kernel,rfl,by decide+kernel,by decide+kernel⟩
def Oz (C:Addr):Sp:=FP λvs H r=>∃(p dx aw ar:Addr) (x y d i:Int),vs=[.ref p,.int i]/\H p=some (.ins C dx (GS x y d aw ar))/\r=.int (bQ x y d i).2
theorem EZ {C:Addr}{H:Hp}{Q:VK}{E:XK}{p dx aw ar:Addr}{x y d i:Int}(hp:H p=some (.ins C dx (GS x y d aw ar)))(k:∀H',aZ H H'->Q (.int (bQ x y d i).2) H'):Oz C [.ref p,.int i] H Q E:=⟨_,⟨p,dx,aw,ar,x,y,d,i,rfl,hp,rfl⟩,k⟩
theorem oV (T:kR K mg A F):Ok P w K mg 1 A.iO F.iO ["self","place"] (Oz A.aW):=λbase bb=>by
 refine T.iO.F.ok VR (λvs H Q E h=> ?_) (λcdv Ar outer s H vs Q E hr h=> ?_)
 ·obtain⟨r,⟨p,dx,aw,ar,x,y,d,i,rfl,_⟩,_⟩:=h
  rfl
 ·obtain⟨r,⟨p,dx,aw,ar,x,y,d,i,rfl,hp,rfl⟩,k⟩:=h
  refine⟨_,(aS (bU (kP (eB sO (bY (pv 0) rfl) dS (eZ _)) (eL jR (bY (pv 0) rfl) (pv 1)) (bY (pv 0) rfl)))),?_⟩
  have k0:=k _ (aZ.refl H)
  simp_arith [↓eY,hp,HO.ins.injEq,T.aW.cl,qM T,qL T,qN T,rT,rS,rV]
  split <;> rename_i h <;> simpa[bQ,h] using k0
theorem Ds:bV ["laying"] ["laying"] (defScope RZ):=⟨rfl,rfl,rfl,by decide+kernel,rfl,by decide+kernel,by decide+kernel⟩
def Dj (K:PySem.W.Frag)(C:Addr):Sp:=FP λvs H r=>∃(p dx aw ar:Addr) (x y d:Int) (wd rk:List Nat),vs=[.ref p]/\Ur K C H p x y d wd rk dx aw ar/\wd.length<=15/\rk.length<=7/\r=.bl (gQ x y d wd rk)
theorem Ek (T:kR K mg A F):Ok P w K mg 3 A.rD F.rD ["laying"] (Dj K A.aW):=λbase bb=>by
 refine T.rD.F.ok Ds (λvs H Q E h=> ?_) (λcdv Ar outer s H vs Q E hr h=> ?_)
 ·obtain⟨r,⟨p,dx,aw,ar,x,y,d,wd,rk,rfl,_⟩,_⟩:=h
  rfl
 ·obtain⟨r,⟨p,dx,aw,ar,x,y,d,wd,rk,rfl,L,hw,hk,rfl⟩,k⟩:=h
  refine⟨_,(aO (gC (qK (gI (oF T.pT (GF T base bb) hr (aB (bY (pv 0) rfl) (aB (bY (pv 0) rfl) aL))))) (aS (bU yX)) dN) (aO (gC (PW.pt (Mf (eB Iq (bY (pv 0) rfl) dS (eZ _)) (Ea (eB Iq (bY (pv 0) rfl) dS (eZ _))))) (aS (bU yX)) dN) (aO (gC (qK (Ic GD GD dS (eQ eR (by rfl) T.sV PySem.boot_len (aB (bY (pv 0) rfl) aL)) (fF rfl T.xQ))) (aS (bU yX)) dN) (aS (bU (Ww (oF T.wI (WO T base bb) hr (aB (bY (pv 0) rfl) aL)) (LD (oF T.lL (GH T base bb) hr (aB (bY (pv 0) rfl) aL))))))))),?_⟩
  have ew:∀{H'},dX K H' aw (cT wd)->dX K H' aw ((wd.map cF).map V.int):=λh=>by rw[bR];exact h
  have er:∀{H'},dX K H' ar (cT rk)->dX K H' ar ((rk.map cF).map V.int):=λh=>by rw[bR];exact h
  refine XI (!kZ x y) (λR h=> ?_) (λH2 s2 c1=> ?_) (λH2 s2 c1=> ?_)
  ·simp_arith [↓eY,L.at_,HO.ins.injEq,T.aW.cl,qM T,qL T,qN T,rR T,sQ T,rT,rS,rV,tE,tF,lU,lE]
   exact h
  ·simp_arith
   have k0:=k _ s2
   simpa[gQ,Pr c1] using k0
  have hon:kZ x y=true:=Mr c1
  have Lb:=L.same s2
  refine OE (!(decide (d=0) || decide (d=1))) (λR h=> ?_) (λc2=> ?_) (λc2=> ?_)
  ·simp_arith [↓eY,Lb.at_,HO.ins.injEq,T.aW.cl,qM T,qL T,qN T,rR T,sQ T,rT,rS,rV,tE,tF,lU,lE]
   by_cases h0:d=0
   ·simpa[h0] using h
   ·by_cases h1:d=1
    ·simpa[h0,h1] using h
    ·simpa[h0,h1] using h
  ·simp_arith
   have k0:=k _ s2
   simpa[gQ,Pr c2] using k0
  have hd:(decide (d=0) || decide (d=1))=true:=Mr c2
  refine OE (!decide (1<=wd.length)) (λR h=> ?_) (λc3=> ?_) (λc3=> ?_)
  ·simp_arith [↓eY,Lb.at_,HO.ins.injEq,T.aW.cl,qM T,qL T,qN T,rR T,sQ T,rT,rS,rV,tE,tF,lU,lE]
   refine⟨_,.inl Lb.w,?_⟩
   rw[show(cT wd).length=wd.length from aA _]
   by_cases h1:1<=wd.length
   ·have e1:(1:Int)<=(wd.length:Int):=by omega
    have e2:(wd.length:Int)<=15:=by omega
    simpa[h1,e1,e2] using h
   ·have e1:¬(1:Int)<=(wd.length:Int):=by omega
    simpa[h1,e1] using h
  ·simp_arith
   have k0:=k _ s2
   simpa[gQ,(show¬1<=wd.length by simpa using c3)] using k0
  have h1:1<=wd.length:=by simpa using c3
  simp_arith [↓eY,Lb.at_,HO.ins.injEq,T.aW.cl,qM T,qL T,qN T,rR T,sQ T,rT,rS,rV,tE,tF,lU,lE]
  refine RP (er Lb.r) (by rw[aA,aX];omega) λH3 s3=> ?_
  have Lc:=Lb.same s3
  simp_arith [↓eY,Lc.at_,HO.ins.injEq,T.aW.cl,qM T,qL T,qN T,rR T,sQ T,rT,rS,rV,tE,tF,lU,lE]
  split
  ·rename_i h2
   refine DB (ew Lc.w) (by rw[aA,aX];omega) λH4 s4=> ?_
   have k0:=k _ ((s2.trans s3).trans s4)
   simpa[gQ,hon,hd,h1,hw,h2] using k0
  ·rename_i h2
   have k0:=k _ (s2.trans s3)
   simpa[gQ,h2] using k0
end
theorem QR {l:List Nat}{n:Nat}(h:n < l.length):(cT l)[n]? =some (.int (l.getD n 0:Nat)):=by
 unfold cT
 rw[aP,aF,aE h];rfl
theorem fX (l:List Nat):(cT l).length=l.length:=aA _
theorem KS {n:Nat}(h:n<=15):n<=sizeLine:=by rw[aX];omega
theorem C5 {c e:Nat}(h:bI c=true)(he:bI e=true):sq c=(e:Int)↔c=e:=by
 rw[gR] at h he
 unfold sq
 rw[if_neg (by omega)]
 omega
structure uX (K:PySem.W.Frag)(C:Addr)(H:Hp)(a p:Addr)(b:List Nat)(x y d:Int)(wd rk:List Nat)(dx aw ar:Addr):Prop where
 sqs:dX K H a (pV b)
 ok:BM b
 l:Ur K C H p x y d wd rk dx aw ar
 n:wd.length<=15
 wl:∀c∈wd,bI c=true
theorem uX.same {K:PySem.W.Frag}{C:Addr}{H H':Hp}{a p:Addr}{b:List Nat}{x y d:Int}{wd rk:List Nat}{dx aw ar:Addr}(h:uX K C H a p b x y d wd rk dx aw ar)(e:aZ H H'):uX K C H' a p b x y d wd rk dx aw ar:=⟨e.seq h.sqs,h.ok,h.l.same e,h.n,h.wl⟩
theorem uX.at_ {K:PySem.W.Frag}{C:Addr}{H:Hp}{a p:Addr}{b:List Nat}{x y d:Int}{wd rk:List Nat}{dx aw ar:Addr}(h:uX K C H a p b x y d wd rk dx aw ar):H p=some (.ins C dx (GS x y d aw ar)):=h.l.at_
section
variable {P:bS}{w:cY}{K:PySem.W.Frag}{mg:Str->Option aC}{A:Ad}{F:Fd}
theorem TQ:bV ["squares","laying","place"] ["squares","laying","place"] (defScope FU):=⟨rfl,rfl,rfl,by decide+kernel,rfl,by decide+kernel,by decide+kernel⟩
def DH (K:PySem.W.Frag)(C:Addr):Sp:=FP λvs H r=>∃(a p dx aw ar:Addr) (b wd rk:List Nat) (x y d i:Int),vs=[.ref a,.ref p,.int i]/\uX K C H a p b x y d wd rk dx aw ar/\r=.int (sq (under b x y d i))
theorem pD {K:PySem.W.Frag}{C:Addr}{H:Hp}{Q:VK}{E:XK}{a p dx aw ar:Addr}{b wd rk:List Nat}{x y d i:Int}(L:uX K C H a p b x y d wd rk dx aw ar)(k:∀H',aZ H H'->Q (.int (sq (under b x y d i))) H'):DH K C [.ref a,.ref p,.int i] H Q E:=⟨_,⟨a,p,dx,aw,ar,b,wd,rk,x,y,d,i,rfl,L,rfl⟩,k⟩
theorem qD (T:kR K mg A F):Ok P w K mg 3 A.iE F.iE ["squares","laying","place"] (DH K A.aW):=λbase bb=>by
 refine T.iE.F.ok TQ (λvs H Q E h=> ?_) (λcdv Ar outer s H vs Q E hr h=> ?_)
 ·obtain⟨r,⟨a,p,dx,aw,ar,b,wd,rk,x,y,d,i,rfl,_⟩,_⟩:=h
  rfl
 ·obtain⟨r,⟨a,p,dx,aw,ar,b,wd,rk,x,y,d,i,rfl,L,rfl⟩,k⟩:=h
  refine⟨_,(aS (bU (oF T.mI (wH T base bb) hr (aB (pv 0) (aB (IL (pv 1) T.aW T.iP (oW T base bb) hr (aB (pv 2) aL)) (aB (IL (pv 1) T.aW T.iO (oV T base bb) hr (aB (pv 2) aL)) aL)))))),?_⟩
  simp_arith [↓eY,L.at_,HO.ins.injEq,T.aW.cl,qM T,qL T,qN T,rR T,sQ T,rT,rS,rV,tE,tF,lU,lE]
  refine FA L.at_ λH2 s2=> ?_
  simp_arith [↓eY,(L.same s2).at_,HO.ins.injEq,T.aW.cl,qM T,qL T,qN T,rR T,sQ T,rT,rS,rV,tE,tF,lU,lE]
  refine EZ (L.same s2).at_ λH3 s3=> ?_
  have L3:=L.same (s2.trans s3)
  exact uC L3.sqs L.ok λH4 s4=>k _ ((s2.trans s3).trans s4)
theorem Az:bV ["squares","laying","place","under"] ["squares","laying","place"] (defScope Hs):=⟨rfl,rfl,rfl,by decide+kernel,rfl,by decide+kernel,by decide+kernel⟩
def Ay (K:PySem.W.Frag)(C:Addr):Sp:=FP λvs H r=>∃(a p dx aw ar:Addr) (b wd rk:List Nat) (x y d:Int) (i:Nat),vs=[.ref a,.ref p,.int i]/\uX K C H a p b x y d wd rk dx aw ar/\i < wd.length/\
  r=.bl (under b x y d i==0 || under b x y d i==wd.getD i 0)
theorem Li {K:PySem.W.Frag}{C:Addr}{H:Hp}{Q:VK}{E:XK}{a p dx aw ar:Addr}{b wd rk:List Nat}{x y d:Int}{i:Nat}(L:uX K C H a p b x y d wd rk dx aw ar)(hi:i < wd.length)
  (k:∀H',aZ H H'->Q (.bl (under b x y d i==0 || under b x y d i==wd.getD i 0)) H'):Ay K C [.ref a,.ref p,.int i] H Q E:=⟨_,⟨a,p,dx,aw,ar,b,wd,rk,x,y,d,i,rfl,L,hi,rfl⟩,k⟩
theorem Sk (T:kR K mg A F):Ok P w K mg 4 A.HE F.HE ["squares","laying","place"] (Ay K A.aW):=λbase bb=>by
 refine T.HE.F.ok Az (λvs H Q E h=> ?_) (λcdv Ar outer s H vs Q E hr h=> ?_)
 ·obtain⟨r,⟨a,p,dx,aw,ar,b,wd,rk,x,y,d,i,rfl,_⟩,_⟩:=h
  rfl
 ·obtain⟨r,⟨a,p,dx,aw,ar,b,wd,rk,x,y,d,i,rfl,L,hi,rfl⟩,k⟩:=h
  refine⟨_,(aO (dJ (i:=3) Az.nd rfl (cB rfl) (oF T.iE (qD T base bb) hr (aB (pv 0) (aB (pv 1) (aB (pv 2) aL))))) (aS (bU (Ik (uE sO (pv 3) (fF rfl T.wM) (eZ _)) (LD (uE sO (pv 3) (uM qE (bY (pv 1) rfl) (pv 2) (λ_ _=>rfl)) (eZ _))))))),?_⟩
  simp_arith
  refine pD L λH2 s2=> ?_
  have Lb:=L.same s2
  have k0:=k _ s2
  have h46:=VA (L.ok.under x y d i)
  simp_arith [↓eY,Lb.at_,HO.ins.injEq,T.aW.cl,qM T,qL T,qN T,rR T,sQ T,rT,rS,rV,tE,tF,lU,lE]
  by_cases h:sq (under b x y d i)=46
  ·rw[if_pos h]
   have e0:(under b x y d i==0)=true:=by simpa using h46.mp h
   rw[e0,YW] at k0
   exact k0
  ·rw[if_neg h]
   have h0:¬under b x y d i=0:=λz=>h (h46.mpr z)
   refine⟨_,_,_,_,rfl,rfl,Lb.l.w,uO (j:=i) rfl (QR hi),rfl,?_⟩
   have hm:wd.getD i 0∈wd:=by
    rw[aF,aE hi];exact HF hi
   have e:=C5 ((L.ok.under x y d i).resolve_left h0) (L.wl _ hm)
   have e2:decide (V.int (sq (under b x y d i))=V.int (wd.getD i 0:Nat))=(under b x y d i==0 || under b x y d i==wd.getD i 0):=by
    rw[cZ,decide_eq_true_iff,V.int.injEq,e,dP,beq_iff_eq,beq_iff_eq]
    exact⟨λz=>.inr z,λz=>z.resolve_left h0⟩
   rw[e2]
   exact k0
abbrev YR:List Str:=["squares","laying","place"]
theorem xG:bV ["squares","laying","place"] ["squares","laying"] (defScope zK):=⟨rfl,rfl,rfl,by decide+kernel,rfl,by decide+kernel,by decide+kernel⟩
def FK (K:PySem.W.Frag)(C:Addr):Sp:=λvs H Q _=>∃(a p dx aw ar:Addr) (b wd rk:List Nat) (x y d:Int),vs=[.ref a,.ref p]/\uX K C H a p b x y d wd rk dx aw ar/\
  ∀H' q,aZ H H'->H q=none->H' q=some (.lst (cT (cE b x y d wd.length)))->Q (.ref q) H'
theorem pY {K:PySem.W.Frag}{C:Addr}{H:Hp}{Q:VK}{E:XK}{a p dx aw ar:Addr}{b wd rk:List Nat}{x y d:Int}(L:uX K C H a p b x y d wd rk dx aw ar)
  (k:∀H' q,aZ H H'->H q=none->H' q=some (.lst (cT (cE b x y d wd.length)))->Q (.ref q) H'):FK K C [.ref a,.ref p] H Q E:=⟨a,p,dx,aw,ar,b,wd,rk,x,y,d,rfl,L,k⟩
theorem xA {α β:Type}(f:α->β)(p:α->Bool)(l:List α):l.filterMap (λx=>if p x=true then some (f x) else none)=(l.filter p).map f:=by
 induction l with
 | nil=>rfl
 | cons a l ih=>
  rw[dM,nQ]
  cases h:p a <;> simp[ih]
theorem sP (T:kR K mg A F):Ok P w K mg 4 A.jG F.jG ["squares","laying"] (FK K A.aW):=λbase bb=>by
 refine T.jG.F.ok xG (λvs H Q E h=> ?_) (λcdv Ar outer s H vs Q E hr h=> ?_)
 ·obtain⟨a,p,dx,aw,ar,b,wd,rk,x,y,d,rfl,_⟩:=h
  rfl
 ·obtain⟨a,p,dx,aw,ar,b,wd,rk,x,y,d,rfl,L,k⟩:=h
  refine⟨_,(aS (bU (tI rfl xG.nd (tX rfl T.wN (aB (eQ eR (by rfl) T.sV PySem.boot_len (aB (bY (pv 1) rfl) aL)) aL)) (fN (N:=YR) (sc:=defScope zK) (own:=[("place",2)]) (by decide+kernel)) (λ_ _ _ _ _=>(dG (i:=2) xG.nd rfl (cB rfl))) (λ_ _ _ _ _=>sI (eB sO (oF T.iE (qD T base bb) hr (aB (pv 0) (aB (pv 1) (aB (pv 2) aL)))) (fF rfl T.wM) (eZ _))) (λ_ _ _ _ _=>(pv 2))))),?_⟩
  simp_arith
  refine lcN (n:=wd.length) (λi=>if under b x y d i==0 then some (.int i) else none) (λR h=> ?_) (KS L.n) ?_ ?_
  ·simp_arith [↓eY,L.at_,HO.ins.injEq,T.aW.cl,qM T,qL T,qN T,rR T,sQ T,rT,rS,rV,tE,tF,lU,lE]
   exact⟨_,.inl L.l.w,by rw[fX];exact h⟩
  ·intro D hD i H' acc Nx hi e1 e2 e3 k2
   simp_arith
   refine pD (L.same e1) λH2 s2=> ?_
   have h46:=VA (L.ok.under x y d i)
   simp_arith
   split
   ·rename_i h
    exact rZ.yes (by simpa[h46.mp h] using k2) e2 e3 s2
   ·rename_i h
    have h0:¬under b x y d i=0:=λz=>h (h46.mpr z)
    exact rZ.no (by simpa[h0] using k2) s2
  ·intro D H' hD e1 e2
   rw[xA] at e2
   exact k _ _ e1 hD e2
end
section
variable {P:bS}{w:cY}{K:PySem.W.Frag}{mg:Str->Option aC}{A:Ad}{F:Fd}
abbrev t7:List Str:=["squares","laying","length","place"]
theorem UJ:bV ["squares","laying","length","place"] ["squares","laying"] (defScope Md):=⟨rfl,rfl,rfl,by decide+kernel,rfl,by decide+kernel,by decide+kernel⟩
def Pb (K:PySem.W.Frag)(C:Addr):Sp:=FP λvs H r=>∃(a p dx aw ar:Addr) (b wd rk:List Nat) (x y d:Int),vs=[.ref a,.ref p]/\uX K C H a p b x y d wd rk dx aw ar/\r=.bl (lV b x y d wd)
theorem Vn {K:PySem.W.Frag}{C:Addr}{H:Hp}{Q:VK}{E:XK}{a p dx aw ar:Addr}{b wd rk:List Nat}{x y d:Int}(L:uX K C H a p b x y d wd rk dx aw ar)(k:∀H',aZ H H'->Q (.bl (lV b x y d wd)) H'):Pb K C [.ref a,.ref p] H Q E:=⟨_,⟨a,p,dx,aw,ar,b,wd,rk,x,y,d,rfl,L,rfl⟩,k⟩
theorem j0 (T:kR K mg A F):Ok P w K mg 5 A.fits F.fits ["squares","laying"] (Pb K A.aW):=λbase bb=>by
 refine T.fits.F.ok UJ (λvs H Q E h=> ?_) (λcdv Ar outer s H vs Q E hr h=> ?_)
 ·obtain⟨r,⟨a,p,dx,aw,ar,b,wd,rk,x,y,d,rfl,_⟩,_⟩:=h
  rfl
 ·obtain⟨r,⟨a,p,dx,aw,ar,b,wd,rk,x,y,d,rfl,L,rfl⟩,k⟩:=h
  refine⟨_,(aO (dJ (i:=2) UJ.nd rfl (cB rfl) (eQ eR (by rfl) T.sV PySem.boot_len (aB (bY (pv 1) rfl) aL))) (aO (gC (eB WK (pv 2) dS (eZ _)) (aS (bU yX)) dN) (aO (gC (qK (gI (oF T.pT (GF T base bb) hr (aB (IL (pv 1) T.aW T.iP (oW T base bb) hr (aB (eL sN (pv 2) dS) aL)) (aB (IL (pv 1) T.aW T.iO (oV T base bb) hr (aB (eL sN (pv 2) dS) aL)) aL))))) (aS (bU yX)) dN) (aO (gC (PW.pt (Hz (eB Iq (oF T.iE (qD T base bb) hr (aB (pv 0) (aB (pv 1) (aB (yW sC dS) aL)))) (fF rfl T.wM) (eZ _)) (WA (eB Iq (oF T.iE (qD T base bb) hr (aB (pv 0) (aB (pv 1) (aB (pv 2) aL)))) (fF rfl T.wM) (eZ _))))) (aS (bU yX)) dN) (aO (gC (qK (gI (eQ (XW rfl) (by rfl) T.Kg Vf (aB (tI rfl UJ.nd (tX rfl T.wN (aB (pv 2) aL)) (fN (N:=t7) (sc:=defScope Md) (own:=[("place",3)]) (by decide+kernel)) (λ_ _ _ _ _=>(dG (i:=3) UJ.nd rfl (cB rfl))) (λ_ _ _ _ _=>oE) (λ_ _ _ _ _=>(oF T.HE (Sk T base bb) hr (aB (pv 0) (aB (pv 1) (aB (pv 3) aL)))))) aL)))) (aS (bU yX)) dN) (aS (bU (uE Wz (eQ eR (by rfl) T.sV PySem.boot_len (aB (oF T.jG (sP T base bb) hr (aB (pv 0) (aB (pv 1) aL))) aL)) dS (eZ _))))))))),?_⟩
  simp_arith [↓eY,L.at_,HO.ins.injEq,T.aW.cl,qM T,qL T,qN T,rR T,sQ T,rT,rS,rV,tE,tF,lU,lE]
  refine⟨_,.inl L.l.w,?_⟩
  rw[fX]
  by_cases h2:(wd.length:Int) < 2
  ·rw[if_pos h2]
   have k0:=k _ (aZ.refl H)
   have:¬2<=wd.length:=by omega
   simpa[lV,this] using k0
  rw[if_neg h2]
  have h2':2<=wd.length:=by omega
  refine FA L.at_ λH1 s1=> ?_
  refine⟨_,_,(L.same s1).at_,lE ..,EZ (L.same s1).at_ λH2 s2=> ?_⟩
  refine⟨_,⟨_,rfl,_,rfl,rfl⟩,λH3 s3=>Kh ?_⟩
  have s123:=(s1.trans s2).trans s3
  by_cases hon:kZ (bQ x y d ((wd.length:Int) - 1)).1 (bQ x y d ((wd.length:Int) - 1)).2=false
  ·rw[if_pos hon]
   have k0:=k _ s123
   simpa[lV,hon] using k0
  have hon':kZ (bQ x y d ((wd.length:Int) - 1)).1 (bQ x y d ((wd.length:Int) - 1)).2=true:=by simpa using hon
  rw[if_neg hon]
  refine pD (L.same s123) λH4 s4=>⟨rfl,?_⟩
  have s4':=s123.trans s4
  have e1:=VA (L.ok.under x y d (-1))
  by_cases hu1:¬under b x y d (-1)=0
  ·rw[if_pos (by intro z;exact hu1 (e1.mp (V.int.inj z)))]
   have k0:=k _ s4'
   have hb:(under b x y d (-1)==0)=false:=by simpa using hu1
   simpa[lV,hb] using k0
  have hu1:=PJ.mp hu1
  rw[if_neg (by intro z;exact z (by rw[e1.mpr hu1]))]
  refine pD (L.same s4') λH5 s5=>⟨rfl,?_⟩
  have s5':=s4'.trans s5
  have e2:=VA (L.ok.under x y d wd.length)
  by_cases hu2:¬under b x y d wd.length=0
  ·rw[if_pos (by intro z;exact hu2 (e2.mp (V.int.inj z)))]
   have k0:=k _ s5'
   have hb:(under b x y d wd.length==0)=false:=by simpa using hu2
   simpa[lV,hb] using k0
  have hu2:=PJ.mp hu2
  rw[if_neg (by intro z;exact z (by rw[e2.mpr hu2]))]
  have L5:=L.same s5'
  refine lcN (n:=wd.length) (λi=>some (.bl (under b x y d i==0 || under b x y d i==wd.getD i 0))) (λR h=>h) (KS L.n) ?_ ?_
  ·intro D hD i H' acc Nx hi t1 t2 t3 k2
   simp_arith
   exact Li (L5.same t1) hi λH6 s6=>rZ.yes k2 t2 t3 s6
  ·intro D H6 hD s6 hD2
   have s6':=s5'.trans s6
   refine⟨D,(bA wd.length).map λ(i:Nat)=>under b x y d i==0 || under b x y d i==wd.getD i 0,rfl,.inl (.inl ?_),Kh ?_⟩
   ·rw[hD2,LQ,bR];rfl
   ·rw[YH]
    by_cases ha:((bA wd.length).all λi=>under b x y d i==0 || under b x y d i==wd.getD i 0)=false
    ·rw[if_pos ha]
     have k0:=k _ s6'
     unfold lV at k0
     rw[ha] at k0
     simpa using k0
    ·rw[if_neg ha]
     refine pY (L.same s6') λH7 q s7 _ hq=>⟨q,rfl,_,.inl (dX.of hq),?_⟩
     have k0:=k _ (s6'.trans s7)
     have ha':((bA wd.length).all λi=>under b x y d i==0 || under b x y d i==wd.getD i 0)=true:=by cases h:((bA wd.length).all λi=>under b x y d i==0 || under b x y d i==wd.getD i 0) with | true=>rfl | false=>exact absurd h ha
     rw[fX]
     have e3:decide ((0:Int) < ((cE b x y d wd.length).length:Int))=lV b x y d wd:=by
      unfold lV
      rw[ha',hon']
      simp[h2',hu1,hu2]
     rw[e3]
     exact k0
theorem Zv {c:Nat}(h:bI c=true):UV (c:Int)=(eT c:Nat):=by
 rw[gR] at h
 unfold UV eT pU
 by_cases h1:97<=c
 ·have e1:(97:Int)<=c:=by omega
  have e2:(c:Int)<=122:=by omega
  simp[h1,e1,e2]
 ·have e1:¬(97:Int)<=c:=by omega
  simp[h1,e1]
theorem GV {c:Nat}{l:List Nat}:G9 (.int c) (cT l)=l.contains c:=by
 unfold G9 cT
 rw[List.any_map,cZ,jO,aR]
 constructor
 ·rintro⟨z,hz,h⟩
  have h':((z:Int)==(c:Int))=true:=h
  have:z=c:=oC (by simpa using h')
  rw[<-this];exact hz
 ·intro h
  refine⟨c,h,?_⟩
  show((c:Int)==(c:Int))=true
  simp
theorem sU (l:List Nat):(cT l).all BE=true:=by
 unfold cT
 rw[uW]
 exact cN.mpr λ_ _=>rfl
theorem sT (l:List Nat):cT l=(l.map cF).map V.int:=by
 unfold cT
 rw[bR];rfl
theorem Cg (l:List Nat)(c:Nat):((l.map cF).erase (c:Int)).map V.int=cT (l.erase c):=by
 rw[sT]
 congr 1
 induction l with
 | nil=>rfl
 | cons a l ih=>
  rw[aJ,KO,KO]
  by_cases h:a=c
  ·subst h
   simp
  ·have h1:(cF a==(c:Int))=false:=by
    rw[beq_eq_false_iff_ne]
    intro z
    exact h (oC z)
   have h2:(a==c)=false:=by simpa using h
   rw[h1,h2]
   simp only[eO,if_false,aJ,ih]
theorem qA:bV ["squares","laying","left","place","needed"] ["squares","laying"] (defScope FV):=⟨rfl,rfl,rfl,by decide+kernel,rfl,by decide+kernel,by decide+kernel⟩
def DI (K:PySem.W.Frag)(C:Addr):Sp:=FP λvs H r=>∃(a p dx aw ar:Addr) (b wd rk:List Nat) (x y d:Int),vs=[.ref a,.ref p]/\uX K C H a p b x y d wd rk dx aw ar/\r=.bl (fG rk ((cE b x y d wd.length).map λi=>wd.getD i 0))
theorem PP {K:PySem.W.Frag}{C:Addr}{H:Hp}{Q:VK}{E:XK}{a p dx aw ar:Addr}{b wd rk:List Nat}{x y d:Int}(L:uX K C H a p b x y d wd rk dx aw ar)(k:∀H',aZ H H'->Q (.bl (fG rk ((cE b x y d wd.length).map λi=>wd.getD i 0))) H'):DI K C [.ref a,.ref p] H Q E:=⟨_,⟨a,p,dx,aw,ar,b,wd,rk,x,y,d,rfl,L,rfl⟩,k⟩
theorem TX (T:kR K mg A F):Ok P w K mg 5 A.lJ F.lJ ["squares","laying"] (DI K A.aW):=λbase bb=>by
 refine T.lJ.F.ok qA (λvs H Q E h=> ?_) (λcdv Ar outer s H vs Q E hr h=> ?_)
 ·obtain⟨r,⟨a,p,dx,aw,ar,b,wd,rk,x,y,d,rfl,_⟩,_⟩:=h
  rfl
 ·obtain⟨r,⟨a,p,dx,aw,ar,b,wd,rk,x,y,d,rfl,L,rfl⟩,k⟩:=h
  refine⟨_,(aO (dJ (i:=2) qA.nd rfl (cB rfl) (HS OL (by rfl) T.Nr boot_list (aB (bY (pv 1) rfl) aL))) (aO (tW eP rfl (iY (oF T.jG (sP T base bb) hr (aB (pv 0) (aB (pv 1) aL)))) (dG (i:=3) qA.nd rfl (cB rfl)) (aO (dJ (i:=4) qA.nd rfl (cB rfl) (oF T.iL (LH T base bb) hr (aB (uM qE (bY (pv 1) rfl) (pv 3) (λ_ _=>rfl)) aL))) (aO (gC (eB CC (pv 4) (pv 2) (by with_unfolding_all rfl)) (aS (bU yX)) dN) (aS (sJ (JU PySem.F.plainAttrs_list PySem.F.slot_list_remove PySem.F.type_list_remove Bq (pv 2) (aB (pv 4) aL))))))) (aS (bU yX)))),?_⟩
  simp_arith [↓eY,L.at_,HO.ins.injEq,T.aW.cl,qM T,qL T,qN T,rR T,sQ T,rT,rS,rV,tE,tF,lU,lE]
  refine⟨_,.inl L.l.r,λl hl=> ?_⟩
  have sl:aZ H (L2.upd H l (.lst (cT rk))):=aZ.upd hl
  refine K0 (xs:=cE b x y d wd.length) (λi:Nat=>V.int i) (λq H1=>aZ H H1/\H1 l=some (.lst (cT rk))/\q≠l/\H1 q=some (.lst (cT (cE b x y d wd.length)))) (λR h=> ?_)
   (λq i σ' H'=>∃(left:List Nat) (v3 v4:Option V),σ'=[some (.ref a),some (.ref p),some (.ref l),v3,v4]/\aZ H H'/\H' l=some (.lst (cT left))/\q≠l/\H' q=some (.lst (cT (cE b x y d wd.length)))/\
    fG rk ((cE b x y d wd.length).map λi=>wd.getD i 0)=fG left (((cE b x y d wd.length).drop i).map λi=>wd.getD i 0))
   (λq H1 c=>⟨rk,none,none,rfl,c.1,c.2.1,c.2.2.1,c.2.2.2,rfl⟩) (λq i σ' H' ⟨left,v3,v4,_,_,_,_,h,_⟩=>dX.of h) ?_ ?_
  ·simp_arith
   exact pY (L.same sl) λH1 q s1 hq0 hq=>h _ _ ⟨sl.trans s1,s1 _ _ aK,(λz=>by rw[z,aK] at hq0;cases hq0),hq⟩
  ·rintro q i z σ' H' hz ⟨left,v3,v4,rfl,s1,hl1,hql,hq1,ht⟩
   have hm:z∈cE b x y d wd.length:=aY hz
   have hzn:z < wd.length:=by
    have:=(bO.mp hm).1
    simpa using this
   have L1:=L.same s1
   have hcm:wd.getD z 0∈wd:=by
    rw[aF,aE hzn];exact HF hzn
   simp_arith [↓eY,L1.at_,HO.ins.injEq,T.aW.cl,qM T,qL T,qN T,rR T,sQ T,rT,rS,rV,tE,tF,lU,lE]
   refine⟨_,_,_,_,rfl,rfl,L1.l.w,uO (j:=z) rfl (QR hzn),?_⟩
   simp_arith
   intro H2 s2
   have et:UV ((wd.getD z 0:Nat):Int)=((eT (wd.getD z 0):Nat):Int):=Zv (L.wl _ hcm)
   rw[et]
   have hd:(cE b x y d wd.length).drop i=z::(cE b x y d wd.length).drop (i+1):=by
    obtain⟨h1,h2⟩:=bL.mp hz
    rw[rL h1,h2]
   rw[hd,aJ] at ht
   refine⟨l,_,rfl,.inl (dX.of (s2 _ _ hl1)),rfl,sU _,Kh ?_⟩
   rw[if_pos rfl,GV]
   by_cases hc:left.contains (eT (wd.getD z 0))=true
   ·rw[hc]
    refine⟨.inl ⟨rfl,_,dX.of (s2 _ _ hl1)⟩,l,left.map cF,_,rfl,rfl,by rw[<-sT];exact s2 _ _ hl1,?_,?_⟩
    ·exact bE.mpr ⟨_,aR.mp hc,rfl⟩
    ·rw[Cg]
     refine⟨λc o e=> ?_,_,aK,hql,?_,?_⟩
     ·rw[aM (bJ e hl)]
      exact s2 _ _ (s1 _ _ e)
     ·rw[aM hql]
      exact s2 _ _ hq1
     ·rw[ht]
      show(left.contains (eT (wd.getD z 0))&&_)=_
      rw[hc,Bool.true_and]
   ·have hc':left.contains (eT (wd.getD z 0))=false:=by simpa using hc
    rw[hc']
    have k0:=k _ (s1.trans s2)
    have e0:fG rk ((cE b x y d wd.length).map λi=>wd.getD i 0)=false:=by
     rw[ht]
     show(left.contains (eT (wd.getD z 0))&&_)=_
     rw[hc',Kp]
    rw[e0] at k0
    exact k0
  ·rintro q σ' H' ⟨left,v3,v4,rfl,s1,hl1,hql,hq1,ht⟩
   have k0:=k _ s1
   rw[ht,HH] at k0
   exact k0
end
theorem LR {K:PySem.W.Frag}{H:Hp}:∀l:List Nat,OY K H (cT l) (l.map λ(c:Nat)=>gP (c:Int))
 | []=>.nil
 | c::l=>.cons (.int _) (LR l)
theorem GX:∀l:List Nat,lY (l.map λ(c:Nat)=>gP (c:Int))=true
 | []=>rfl
 | c::l=>by
  show(N2 (gP (c:Int))&&lY _)=true
  rw[GX l];rfl
theorem LS:∀l:List Nat,gX (l.map λ(c:Nat)=>gP (c:Int))<=1
 | []=>by decide
 | c::l=>by
  show max (yC (gP (c:Int))) (gX _)<=1
  have:=LS l
  have e:yC (gP (c:Int))=0:=rfl
  omega
abbrev dL (l:List Nat):PyData:=.list (l.map λ(c:Nat)=>gP (c:Int))
theorem aa (l:List Nat):uG (dL l)=true:=by
 unfold uG
 rw[bH]
 refine⟨GX l,?_⟩
 have:=LS l
 exact decide_eq_true (by show gX _+1<=64;omega)
theorem Qo (ds:List PyData):RH (.list ds) (.list [])=ds.isEmpty:=by
 cases ds <;> rfl
theorem br {K:PySem.W.Frag}{H:Hp}{q q0:Addr}{l:List Nat}{Q:VK}(h:dX K H q (cT l))(h0:H q0=some (.lst []))(k:Q (.bl (!l.isEmpty)) H):e8 K (.ref q) (.ref q0) H Q:=by
 refine⟨dL l,.list [],.lst h (LR l),.lst (dX.of h0) .nil,aa l,rfl,?_⟩
 rw[Qo,O4]
 exact k
abbrev CW (H:Hp):List Addr->List (List Nat)->Prop:=Paired λq c=>H q=some (.lst (cT c))
theorem CW.same {H H':Hp}(e:aZ H H'){qs:List Addr}{cs:List (List Nat)}(h:CW H qs cs):CW H' qs cs:=Paired.mapP h λ_ _ z=>e _ _ z
theorem Nf {K:PySem.W.Frag}{H:Hp}{qs:List Addr}{cs:List (List Nat)}(h:CW H qs cs):OY K H (qs.map V.ref) (cs.map dL):=by
 induction h with
 | nil=>exact .nil
 | cons r _ ih=>exact .cons (.lst (dX.of r) (LR _)) ih
theorem SV:∀cs:List (List Nat),lY (cs.map dL)=true
 | []=>rfl
 | c::cs=>by
  show(lY _&&lY (cs.map dL))=true
  rw[SV cs,GX];rfl
theorem XT:∀cs:List (List Nat),gX (cs.map dL)<=2
 | []=>by decide
 | c::cs=>by
  show max (gX _+1) (gX (cs.map dL))<=2
  have:=XT cs
  have:=LS c
  omega
theorem E8 {K:PySem.W.Frag}{H:Hp}{q q0:Addr}{qs:List Addr}{cs:List (List Nat)}{Q:VK}(h:dX K H q (qs.map V.ref))(r:CW H qs cs)(h0:H q0=some (.lst []))(k:Q (.bl (!cs.isEmpty)) H):e8 K (.ref q) (.ref q0) H Q:=by
 refine⟨.list (cs.map dL),.list [],.lst h (Nf r),.lst (dX.of h0) .nil,?_,rfl,?_⟩
 ·unfold uG
  rw[bH]
  refine⟨SV cs,?_⟩
  have:=XT cs
  exact decide_eq_true (by show gX _+1<=64;omega)
 ·rw[Qo,O4]
  exact k
theorem XA {c:Nat}(h:bI c=true):(mT (c:Int) || pU (c:Int))=true:=by
 rw[gR] at h
 unfold mT pU
 rcases h with h | h
 ·have h1:(65:Int)<=c:=by omega
  have h2:(c:Int)<=90:=by omega
  simp[h1,h2]
 ·have h1:(97:Int)<=c:=by omega
  have h2:(c:Int)<=122:=by omega
  simp[h1,h2]
theorem Bf {c:Nat}(h:bI c=true):WB (c:Int)=(cH c:Nat):=by
 rw[gR] at h
 unfold WB cH pU
 rcases h with h | h
 ·have h1:¬(97:Int)<=c:=by omega
  have e:((c:Int) - 65).toNat=c - 65:=by omega
  rw[if_pos h,e]
  simp only[h1,decide_false,Kp,eO,if_false]
  have hk:∀n:Fin 26,Ib.getD n.val 0=((Sz32.values.getD n.val 0:Nat):Int):=by decide
  exact hk ⟨c - 65,by omega⟩
 ·have h1:(97:Int)<=c:=by omega
  have h2:(c:Int)<=122:=by omega
  rw[if_neg (show¬(65<=c/\c<=90) by omega)]
  simp[h1,h2]
section
variable {P:bS}{w:cY}{K:PySem.W.Frag}{mg:Str->Option aC}{A:Ad}{F:Fd}
abbrev RK:List Str:=["letters","letter"]
theorem tU:bV ["letters","letter"] ["letters"] (defScope vG):=⟨rfl,rfl,rfl,by decide+kernel,rfl,by decide+kernel,by decide+kernel⟩
def AC (K:PySem.W.Frag):Sp:=FP λvs H r=>∃(a:Addr) (l:List Nat),vs=[.ref a]/\dX K H a (cT l)/\l.length<=100/\(∀c∈l,bI c=true)/\r=.int (dA l)
theorem yH {K:PySem.W.Frag}{H:Hp}{Q:VK}{E:XK}{a:Addr}{l:List Nat}(h:dX K H a (cT l))(hz:l.length<=100)(hl:∀c∈l,bI c=true)(k:∀H',aZ H H'->Q (.int (dA l)) H'):AC K [.ref a] H Q E:=⟨_,⟨a,l,rfl,h,hz,hl,rfl⟩,k⟩
theorem AS (T:kR K mg A F):Ok P w K mg 3 A.iX F.iX ["letters"] (AC K):=λbase bb=>by
 refine T.iX.F.ok tU (λvs H Q E h=> ?_) (λcdv Ar outer s H vs Q E hr h=> ?_)
 ·obtain⟨r,⟨a,l,rfl,_⟩,_⟩:=h
  rfl
 ·obtain⟨r,⟨a,l,rfl,hl,hz,hw,rfl⟩,k⟩:=h
  refine⟨_,(aS (bU (eQ (K5 rfl) (by rfl) T.V5 boot_sum (aB (tI rfl tU.nd (iY (pv 0)) (fN (N:=RK) (sc:=defScope vG) (own:=[("letter",1)]) (by decide+kernel)) (λ_ _ _ _ _=>(dG (i:=1) tU.nd rfl (cB rfl))) (λ_ _ _ _ _=>oE) (λ_ _ _ _ _=>(oF T.pG (NP T base bb) hr (aB (pv 1) aL)))) aL)))),?_⟩
  simp_arith
  refine Ux (xs:=l) (λc:Nat=>V.int c) (λc=>some (.int (cH c:Nat))) (Ld H a) (λR h=>h _ _ ⟨rfl,rfl⟩) (λa' H1 c=>by rw[c.1,c.2];exact hl) (by rw[aX];omega) ?_ ?_
  ·rintro _ _ D ⟨rfl,rfl⟩ hD i x H' acc Nx hx e1 e2 e3 k2
   have hx':=hw x (aY hx)
   simp_arith
   refine JB (XA hx') λH2 s2=> ?_
   rw[Bf hx']
   exact rZ.yes k2 e2 e3 s2
  ·rintro _ _ D H' ⟨rfl,rfl⟩ hD e1 e2
   refine⟨D,l.map λc=>(cH c:Int),rfl,.inl (.inl ?_),k _ e1⟩
   rw[e2,LQ,bR];rfl
end
theorem HY {K:PySem.W.Frag}{tv:TE}{D:DA}{σ:L2.St}{H:Hp}{p C dx:Addr}{fs:List (Str×V)}{f:Str}{i:Nat}(G:V->Hp->Prop)(hi:σ[i]? =some (some (.ref p)))(hC:Rn K C)(hn:fP K C f)(hl:fs.length < 1000)
  (h:∀Q:VK,(∀y H1,G y H1->Q y H1)->tv σ H Q) (hp:∀y H1,G y H1->H1 p=some (.ins C dx fs)) (k:∀y H1,G y H1->D.nx σ (L2.upd H1 p (.ins C dx (fL f y fs)))):d8 K (IJ i) tv f D σ H:=
 h _ λy H1 g=>by show Y3 σ[i]? _;rw[hi];exact⟨C,dx,fs,hp y H1 g,hC,hn,hl,k y H1 g⟩
theorem sS {K:PySem.W.Frag}{tv:TE}{uL:TS}{D:DA}{σ:L2.St}{H:Hp}{p C dx:Addr}{fs:List (Str×V)}{f:Str}{i:Nat}(G:V->Hp->Prop)(hi:σ[i]? =some (some (.ref p)))(hC:Rn K C)(hn:fP K C f)(hl:fs.length < 1000)
  (h:∀Q:VK,(∀y H1,G y H1->Q y H1)->tv σ H Q) (hp:∀y H1,G y H1->H1 p=some (.ins C dx fs)) (k:∀y H1,G y H1->uL D σ (L2.upd H1 p (.ins C dx (fL f y fs)))):Sb (d8 K (IJ i) tv f) uL D σ H:=
 HY G hi hC hn hl h hp k
def mE (g:Addr)(H H':Hp):Prop:=∀c o,H c=some o->c≠g->H' c=some o
theorem mE.andS {g:Addr}{H H1 H2:Hp}(a:mE g H H1)(b:aZ H1 H2):mE g H H2:=λc o e n=>b _ _ (a c o e n)
theorem mE.andU {g:Addr}{H H1:Hp}{o:HO}(a:mE g H H1):mE g H (L2.upd H1 g o):=λc u e n=>by rw[aM n];exact a c u e n
theorem mE.nothing {g c:Addr}{H H1:Hp}{u:HO}{C dx:Addr}{fs:List (Str×V)}(a:mE g H H1)(_:H g=some (.ins C dx fs))(hg:H1 g=some u)(n:H1 c=none):H c=none:=by
 cases e:H c with
 | none=>rfl
 | some o=>
  by_cases h:c=g
  ·rw[h,hg] at n;cases n
  ·rw[a c o e h] at n;cases n
theorem mE.refl (g:Addr)(H:Hp):mE g H H:=λ_ _ e _=>e
theorem mE.seqI {K:PySem.W.Frag}{g a C dx:Addr}{fs:List (Str×V)}{H H1:Hp}{xs:List V}(h:mE g H H1)(hg:H g=some (.ins C dx fs))(q:dX K H a xs):dX K H1 a xs:=by
 rcases q with(q | ⟨o,q⟩) | q
 ·exact .inl (.inl (h _ _ q (eK q hg (by intro z;cases z))))
 ·exact .inl (.inr ⟨o,h _ _ q (eK q hg (by intro z;cases z))⟩)
 ·exact .inr q
def Zf (l:Int)(e:Bool)(a1 a2:Addr)(cr:Bool)(cp lf wf:Int):List (Str×V):=[("letter",.int l),("is_empty",.bl e),("before",.ref a1),("behind",.ref a2),("is_crossed",.bl cr),("crossing_points",.int cp),("letter_fold",.int lf),("word_fold",.int wf)]
section
variable (l:Int)(e:Bool)(a1 a2:Addr)(cr:Bool)(cp lf wf:Int)
theorem KA:(Zf l e a1 a2 cr cp lf wf).lookup ("letter":Str)=some (.int l):=rfl
theorem GM:(Zf l e a1 a2 cr cp lf wf).lookup ("is_empty":Str)=some (.bl e):=rfl
theorem GO:(Zf l e a1 a2 cr cp lf wf).lookup ("before":Str)=some (.ref a1):=rfl
theorem DU:(Zf l e a1 a2 cr cp lf wf).lookup ("behind":Str)=some (.ref a2):=rfl
theorem GN:(Zf l e a1 a2 cr cp lf wf).lookup ("is_crossed":Str)=some (.bl cr):=rfl
theorem JZ:(Zf l e a1 a2 cr cp lf wf).lookup ("crossing_points":Str)=some (.int cp):=rfl
theorem KB:(Zf l e a1 a2 cr cp lf wf).lookup ("letter_fold":Str)=some (.int lf):=rfl
theorem JY:(Zf l e a1 a2 cr cp lf wf).lookup ("word_fold":Str)=some (.int wf):=rfl
theorem DT:(Zf l e a1 a2 cr cp lf wf).lookup ("crossing_with":Str)=none:=rfl
end
def vD (b:List Nat)(x y d:Int):List Nat:=(nJ b (-d) (-(1 - d)) 15 (x - d) (y - (1 - d))).reverse
def zI (b:List Nat)(x y d:Int):List Nat:=nJ b d (1 - d) 15 (x+d) (y+(1 - d))
def tS (b:List Nat)(x y d:Int):Bool:= !((vD b x y d).isEmpty&&(zI b x y d).isEmpty)
structure vQ (C:Addr)(H:Hp)(p dx a1 a2:Addr)(b:List Nat)(x y d:Int):Prop where
 at_:H p=some (.ins C dx (Zf (sq (aH b x y)) (aH b x y==0) a1 a2 (tS b x y d) (dA (vD b x y d)+dA (zI b x y d)) (cG x y:Nat) (fK x y:Nat)))
 bf:H a1=some (.lst (cT (vD b x y d)))
 bh:H a2=some (.lst (cT (zI b x y d)))
theorem vQ.same {C:Addr}{H H':Hp}{p dx a1 a2:Addr}{b:List Nat}{x y d:Int}(h:vQ C H p dx a1 a2 b x y d)(e:aZ H H'):vQ C H' p dx a1 a2 b x y d:=⟨e _ _ h.at_,e _ _ h.bf,e _ _ h.bh⟩
section
variable {P:bS}{w:cY}{K:PySem.W.Frag}{mg:Str->Option aC}{A:Ad}{F:Fd}
theorem mF (T:kR K mg A F):fP K A.aV "letter"/\fP K A.aV "is_empty"/\fP K A.aV "before"/\fP K A.aV "behind"/\fP K A.aV "is_crossed"/\fP K A.aV "crossing_points"/\fP K A.aV "letter_fold"/\fP K A.aV "word_fold":=
 ⟨T.aV.no _ (by simp),T.aV.no _ (by simp),T.aV.no _ (by simp),T.aV.no _ (by simp),T.aV.no _ (by simp),T.aV.no _ (by simp),T.aV.no _ (by simp),T.aV.no _ (by simp)⟩
theorem BX:bV ["self","squares","x","y","down","step_x","step_y"] ["self","squares","x","y","down"] (defScope SA):=⟨rfl,rfl,rfl,by decide+kernel,rfl,by decide+kernel,by decide+kernel⟩
def MY (K:PySem.W.Frag)(C:Addr):Sp:=λvs H Q _=>∃(p dx a:Addr) (b:List Nat) (x y d:Int),vs=[.ref p,.ref a,.int x,.int y,.int d]/\H p=some (.ins C dx [])/\dX K H a (pV b)/\BM b/\(d=0\/d=1)/\(0<=x/\x < 15/\0<=y/\y < 15)/\
 ∀H' a1 a2,H a1=none->H a2=none->(∀c o,H c=some o->c≠p->H' c=some o)->vQ C H' p dx a1 a2 b x y d->Q .non H'
theorem NR (T:kR K mg A F):Ok P w K mg 4 A.nU F.nU ["self","squares","x","y","down"] (MY K A.aV):=λbase bb=>by
 refine T.nU.F.ok BX (λvs H Q E h=> ?_) (λcdv Ar outer s H vs Q E hr h=> ?_)
 ·obtain⟨p,dx,a,b,x,y,d,rfl,_⟩:=h
  rfl
 ·obtain⟨p,dx,a,b,x,y,d,rfl,hp,ha,hb,hd,⟨x0,x1,y0,y1⟩,k⟩:=h
  refine⟨_,(aO (dJ (i:=5) BX.nd rfl (cB rfl) (pv 4)) (aO (dJ (i:=6) BX.nd rfl (cB rfl) (eL sN dS (pv 4))) (aO (gO (pv 0) (oF T.mI (wH T base bb) hr (aB (pv 1) (aB (pv 2) (aB (pv 3) aL)))) rfl) (aO (gO (pv 0) (uE sO (bY (pv 0) rfl) (fF rfl T.wM) (eZ _)) rfl) (aO (gO (pv 0) (Mj rfl (by rfl) T.Nr (by rfl) T.Nq (aB (oF T.jX (DR T base bb) hr (aB (pv 1) (aB (eL sN (pv 2) (pv 5)) (aB (eL sN (pv 3) (pv 6)) (aB (yW sC (pv 5)) (aB (yW sC (pv 6)) aL)))))) aL)) rfl) (aO (gO (pv 0) (oF T.jX (DR T base bb) hr (aB (pv 1) (aB (eL jR (pv 2) (pv 5)) (aB (eL jR (pv 3) (pv 6)) (aB (pv 5) (aB (pv 6) aL)))))) rfl) (aO (gO (pv 0) (Ik (uE (Ef hr.units) (bY (pv 0) rfl) (gJ aL) (eZ _)) (LD (uE (Ef hr.units) (bY (pv 0) rfl) (gJ aL) (eZ _)))) rfl) (aO (gO (pv 0) (eL jR (oF T.iX (AS T base bb) hr (aB (bY (pv 0) rfl) aL)) (oF T.iX (AS T base bb) hr (aB (bY (pv 0) rfl) aL))) rfl) (aO (gO (pv 0) (oF T.mS (WN T base bb) hr (aB (pv 2) (aB (pv 3) aL))) rfl) (aS (gO (pv 0) (oF T.qT (Eh T base bb) hr (aB (pv 2) (aB (pv 3) aL))) rfl))))))))))),?_⟩
  obtain⟨dir1,dir2⟩:=V3 hd
  obtain⟨n1,n2,n3,n4,n5,n6,n7,n8⟩:=mF T
  have cl:=T.aV.cl
  simp_arith
  refine sS (fs:=[]) (λv H1=>v=.int (sq (aH b x y))/\aZ H H1) rfl cl n1 (by decide) (λR h=> ?_) (λv H1 g=>g.2 _ _ hp) ?_
  ·simp_arith
   exact uC ha hb λH1 s1=>h _ _ ⟨rfl,s1⟩
  rintro _ H1 ⟨rfl,s1⟩
  have u1:mE p H (L2.upd H1 p (.ins A.aV dx (fL "letter" (.int (sq (aH b x y))) []))):=mE.andU λc o e _=>s1 _ _ e
  have p1:(L2.upd H1 p (.ins A.aV dx (fL "letter" (.int (sq (aH b x y))) []))) p=some (.ins A.aV dx [("letter",.int (sq (aH b x y)))]):=aK
  generalize L2.upd H1 p (.ins A.aV dx (fL "letter" (.int (sq (aH b x y))) []))=J1 at u1 p1 ⊢
  have a1:=u1.seqI hp ha
  refine sS (fs:=[("letter",.int (sq (aH b x y)))]) (λv H2=>v=.bl (aH b x y==0)/\H2=J1) rfl cl n2 (by show 1 < 1000;decide) (λR h=> ?_) (λv H1 g=>by rw[g.2];exact p1) ?_
  ·simp_arith [↓eY,p1,HO.ins.injEq,cl,n1]
   refine⟨_,rfl,rfl,?_⟩
   have e46:decide (V.int (sq (aH b x y))=V.int 46)=(aH b x y==0):=by
    rw[cZ,decide_eq_true_iff,V.int.injEq,VA (hb.at_ x y),beq_iff_eq]
   rw[e46]
   exact h _ _ ⟨rfl,rfl⟩
  rintro _ J1 ⟨rfl,rfl⟩
  have u2:mE p H (L2.upd J1 p (.ins A.aV dx (fL "is_empty" (.bl (aH b x y==0)) [("letter",.int (sq (aH b x y)))]))):=u1.andU
  have p2:(L2.upd J1 p (.ins A.aV dx (fL "is_empty" (.bl (aH b x y==0)) [("letter",.int (sq (aH b x y)))]))) p=some (.ins A.aV dx [("letter",.int (sq (aH b x y))),("is_empty",.bl (aH b x y==0))]):=aK
  generalize L2.upd J1 p (.ins A.aV dx (fL "is_empty" (.bl (aH b x y==0)) [("letter",.int (sq (aH b x y)))]))=J2 at u2 p2 ⊢
  have a2:=u2.seqI hp ha
  refine sS (fs:=[("letter",.int (sq (aH b x y))),("is_empty",.bl (aH b x y==0))]) (λv H3=>∃q1,v=.ref q1/\aZ J2 H3/\H3 q1=some (.lst (cT (vD b x y d)))/\J2 q1=none) rfl cl n3 (by show 2 < 1000;decide) (λR h=> ?_) (λv H1 g=>by obtain⟨_,_,g2,_⟩:=g;exact g2 _ _ p2) ?_
  ·simp_arith [x8]
   refine AA a2 hb dir2 λH3 q s3 hq hq'=>⟨_,rfl,_,dX.of hq',λe1 he1=>h _ _ ⟨e1,rfl,s3.trans (aZ.upd he1),?_,s3.free he1⟩⟩
   rw[aK]
   unfold cT vD
   rw[O3]
  rintro _ H3 ⟨q1,rfl,s3,hq1,fq1⟩
  have fq1':H q1=none:=u2.nothing hp p2 fq1
  have u3:mE p H (L2.upd H3 p (.ins A.aV dx (fL "before" (.ref q1) [("letter",.int (sq (aH b x y))),("is_empty",.bl (aH b x y==0))]))):=(u2.andS s3).andU
  have p3:(L2.upd H3 p (.ins A.aV dx (fL "before" (.ref q1) [("letter",.int (sq (aH b x y))),("is_empty",.bl (aH b x y==0))]))) p=some (.ins A.aV dx [("letter",.int (sq (aH b x y))),("is_empty",.bl (aH b x y==0)),("before",.ref q1)]):=aK
  have hq1':(L2.upd H3 p (.ins A.aV dx (fL "before" (.ref q1) [("letter",.int (sq (aH b x y))),("is_empty",.bl (aH b x y==0))]))) q1=some (.lst (cT (vD b x y d))):=by rw[aM (eK hq1 (s3 _ _ p2) (by intro z;cases z))];exact hq1
  generalize L2.upd H3 p (.ins A.aV dx (fL "before" (.ref q1) [("letter",.int (sq (aH b x y))),("is_empty",.bl (aH b x y==0))]))=J3 at u3 p3 hq1' ⊢
  have a3:=u3.seqI hp ha
  refine sS (fs:=[("letter",.int (sq (aH b x y))),("is_empty",.bl (aH b x y==0)),("before",.ref q1)]) (λv H4=>∃q2,v=.ref q2/\aZ J3 H4/\H4 q2=some (.lst (cT (zI b x y d)))/\J3 q2=none) rfl cl n4 (by show 3 < 1000;decide) (λR h=> ?_) (λv H1 g=>by obtain⟨_,_,g2,_⟩:=g;exact g2 _ _ p3) ?_
  ·simp_arith
   exact AA a3 hb dir1 λH4 q s4 hq hq'=>h _ _ ⟨q,rfl,s4,hq',hq⟩
  rintro _ H4 ⟨q2,rfl,s4,hq2,fq2⟩
  have fq2':H q2=none:=u3.nothing hp p3 fq2
  have u4:mE p H (L2.upd H4 p (.ins A.aV dx (fL "behind" (.ref q2) [("letter",.int (sq (aH b x y))),("is_empty",.bl (aH b x y==0)),("before",.ref q1)]))):=(u3.andS s4).andU
  have p4:(L2.upd H4 p (.ins A.aV dx (fL "behind" (.ref q2) [("letter",.int (sq (aH b x y))),("is_empty",.bl (aH b x y==0)),("before",.ref q1)]))) p=some (.ins A.aV dx [("letter",.int (sq (aH b x y))),("is_empty",.bl (aH b x y==0)),("before",.ref q1),("behind",.ref q2)]):=aK
  have hq2':(L2.upd H4 p (.ins A.aV dx (fL "behind" (.ref q2) [("letter",.int (sq (aH b x y))),("is_empty",.bl (aH b x y==0)),("before",.ref q1)]))) q2=some (.lst (cT (zI b x y d))):=by rw[aM (eK hq2 (s4 _ _ p3) (by intro z;cases z))];exact hq2
  have hq1'':(L2.upd H4 p (.ins A.aV dx (fL "behind" (.ref q2) [("letter",.int (sq (aH b x y))),("is_empty",.bl (aH b x y==0)),("before",.ref q1)]))) q1=some (.lst (cT (vD b x y d))):=by rw[aM (eK (s4 _ _ hq1') (s4 _ _ p3) (by intro z;cases z))];exact s4 _ _ hq1'
  generalize L2.upd H4 p (.ins A.aV dx (fL "behind" (.ref q2) [("letter",.int (sq (aH b x y))),("is_empty",.bl (aH b x y==0)),("before",.ref q1)]))=J4 at u4 p4 hq2' hq1'' ⊢
  refine sS (fs:=[("letter",.int (sq (aH b x y))),("is_empty",.bl (aH b x y==0)),("before",.ref q1),("behind",.ref q2)]) (λv H5=>v=.bl (tS b x y d)/\aZ J4 H5) rfl cl n5 (by show 4 < 1000;decide) (λR h=> ?_) (λv H1 g=>g.2 _ _ p4) ?_
  ·have hc:tS b x y d=(!(vD b x y d).isEmpty || !(zI b x y d).isEmpty):=by unfold tS;rw[Bool.not_and]
   simp_arith [↓eY,p4,HO.ins.injEq,cl,n3,n4, ↓rQ]
   refine⟨_,rfl,cA _,λe1 he1=>br (dX.of (by rw[aM (bJ hq1'' he1)];exact hq1'')) aK (Kh ?_)⟩
   have se1:aZ J4 (L2.upd J4 e1 (.lst [])):=aZ.upd he1
   split
   ·rename_i hn
    rw[hn,YW] at hc
    rw[<-hc]
    exact h _ _ ⟨rfl,se1⟩
   ·rename_i hn
    have hn':(!(vD b x y d).isEmpty)=false:=by cases z:(!(vD b x y d).isEmpty) with | true=>exact absurd z hn | false=>rfl
    rw[hn',Om] at hc
    have p4':=se1 _ _ p4
    refine⟨_,_,_,p4',cl,n4,_,rfl,cA _,λe2 he2=>br (dX.of (by rw[aM (bJ (se1 _ _ hq2') he2)];exact se1 _ _ hq2')) aK ?_⟩
    rw[<-hc]
    exact h _ _ ⟨rfl,se1.trans (aZ.upd he2)⟩
  rintro _ H5 ⟨rfl,s5⟩
  have u5:mE p H (L2.upd H5 p (.ins A.aV dx (fL "is_crossed" (.bl (tS b x y d)) [("letter",.int (sq (aH b x y))),("is_empty",.bl (aH b x y==0)),("before",.ref q1),("behind",.ref q2)]))):=(u4.andS s5).andU
  have p5:(L2.upd H5 p (.ins A.aV dx (fL "is_crossed" (.bl (tS b x y d)) [("letter",.int (sq (aH b x y))),("is_empty",.bl (aH b x y==0)),("before",.ref q1),("behind",.ref q2)]))) p=some (.ins A.aV dx [("letter",.int (sq (aH b x y))),("is_empty",.bl (aH b x y==0)),("before",.ref q1),("behind",.ref q2),("is_crossed",.bl (tS b x y d))]):=aK
  have b5:(L2.upd H5 p (.ins A.aV dx (fL "is_crossed" (.bl (tS b x y d)) [("letter",.int (sq (aH b x y))),("is_empty",.bl (aH b x y==0)),("before",.ref q1),("behind",.ref q2)]))) q1=some (.lst (cT (vD b x y d))):=by rw[aM (eK (s5 _ _ hq1'') (s5 _ _ p4) (by intro z;cases z))];exact s5 _ _ hq1''
  have c5:(L2.upd H5 p (.ins A.aV dx (fL "is_crossed" (.bl (tS b x y d)) [("letter",.int (sq (aH b x y))),("is_empty",.bl (aH b x y==0)),("before",.ref q1),("behind",.ref q2)]))) q2=some (.lst (cT (zI b x y d))):=by rw[aM (eK (s5 _ _ hq2') (s5 _ _ p4) (by intro z;cases z))];exact s5 _ _ hq2'
  generalize L2.upd H5 p (.ins A.aV dx (fL "is_crossed" (.bl (tS b x y d)) [("letter",.int (sq (aH b x y))),("is_empty",.bl (aH b x y==0)),("before",.ref q1),("behind",.ref q2)]))=J5 at u5 p5 b5 c5 ⊢
  have lB:(vD b x y d).length<=15:=by unfold vD;rw[rX];exact uD ..
  have lA:(zI b x y d).length<=15:=uD ..
  have wB:∀c∈vD b x y d,bI c=true:=λc hc=>FZ hb _ _ _ _ _ c (by unfold vD at hc;exact jM.mp hc)
  have wA:∀c∈zI b x y d,bI c=true:=FZ hb _ _ _ _ _
  refine sS (fs:=[("letter",.int (sq (aH b x y))),("is_empty",.bl (aH b x y==0)),("before",.ref q1),("behind",.ref q2),("is_crossed",.bl (tS b x y d))]) (λv H6=>v=.int (dA (vD b x y d)+dA (zI b x y d))/\aZ J5 H6) rfl cl n6 (by show 5 < 1000;decide) (λR h=> ?_) (λv H1 g=>g.2 _ _ p5) ?_
  ·simp_arith [↓eY,p5,HO.ins.injEq,cl,n3,n4]
   refine⟨_,rfl,yH (dX.of b5) (by omega) wB λH6 s6=> ?_⟩
   have p5':=s6 _ _ p5
   simp_arith [↓eY,p5',HO.ins.injEq,cl,n3,n4]
   exact⟨_,rfl,yH (dX.of (s6 _ _ c5)) (by omega) wA λH7 s7=>h _ _ ⟨rfl,s6.trans s7⟩⟩
  rintro _ H6 ⟨rfl,s6⟩
  have u6:mE p H (L2.upd H6 p (.ins A.aV dx (fL "crossing_points" (.int (dA (vD b x y d)+dA (zI b x y d))) [("letter",.int (sq (aH b x y))),("is_empty",.bl (aH b x y==0)),("before",.ref q1),("behind",.ref q2),("is_crossed",.bl (tS b x y d))]))):=(u5.andS s6).andU
  have p6:(L2.upd H6 p (.ins A.aV dx (fL "crossing_points" (.int (dA (vD b x y d)+dA (zI b x y d))) [("letter",.int (sq (aH b x y))),("is_empty",.bl (aH b x y==0)),("before",.ref q1),("behind",.ref q2),("is_crossed",.bl (tS b x y d))]))) p=some (.ins A.aV dx [("letter",.int (sq (aH b x y))),("is_empty",.bl (aH b x y==0)),("before",.ref q1),("behind",.ref q2),("is_crossed",.bl (tS b x y d)),("crossing_points",.int (dA (vD b x y d)+dA (zI b x y d)))]):=aK
  have b6:(L2.upd H6 p (.ins A.aV dx (fL "crossing_points" (.int (dA (vD b x y d)+dA (zI b x y d))) [("letter",.int (sq (aH b x y))),("is_empty",.bl (aH b x y==0)),("before",.ref q1),("behind",.ref q2),("is_crossed",.bl (tS b x y d))]))) q1=some (.lst (cT (vD b x y d))):=by rw[aM (eK (s6 _ _ b5) (s6 _ _ p5) (by intro z;cases z))];exact s6 _ _ b5
  have c6:(L2.upd H6 p (.ins A.aV dx (fL "crossing_points" (.int (dA (vD b x y d)+dA (zI b x y d))) [("letter",.int (sq (aH b x y))),("is_empty",.bl (aH b x y==0)),("before",.ref q1),("behind",.ref q2),("is_crossed",.bl (tS b x y d))]))) q2=some (.lst (cT (zI b x y d))):=by rw[aM (eK (s6 _ _ c5) (s6 _ _ p5) (by intro z;cases z))];exact s6 _ _ c5
  generalize L2.upd H6 p (.ins A.aV dx (fL "crossing_points" (.int (dA (vD b x y d)+dA (zI b x y d))) [("letter",.int (sq (aH b x y))),("is_empty",.bl (aH b x y==0)),("before",.ref q1),("behind",.ref q2),("is_crossed",.bl (tS b x y d))]))=J6 at u6 p6 b6 c6 ⊢
  refine sS (fs:=[("letter",.int (sq (aH b x y))),("is_empty",.bl (aH b x y==0)),("before",.ref q1),("behind",.ref q2),("is_crossed",.bl (tS b x y d)),("crossing_points",.int (dA (vD b x y d)+dA (zI b x y d)))]) (λv H7=>v=.int (cG x y:Nat)/\aZ J6 H7) rfl cl n7 (by show 6 < 1000;decide) (λR h=> ?_) (λv H1 g=>g.2 _ _ p6) ?_
  ·simp_arith
   exact⟨x0,x1,y0,y1,λH7 s7=>h _ _ ⟨rfl,s7⟩⟩
  rintro _ H7 ⟨rfl,s7⟩
  have u7:mE p H (L2.upd H7 p (.ins A.aV dx (fL "letter_fold" (.int (cG x y:Nat)) [("letter",.int (sq (aH b x y))),("is_empty",.bl (aH b x y==0)),("before",.ref q1),("behind",.ref q2),("is_crossed",.bl (tS b x y d)),("crossing_points",.int (dA (vD b x y d)+dA (zI b x y d)))]))):=(u6.andS s7).andU
  have p7:(L2.upd H7 p (.ins A.aV dx (fL "letter_fold" (.int (cG x y:Nat)) [("letter",.int (sq (aH b x y))),("is_empty",.bl (aH b x y==0)),("before",.ref q1),("behind",.ref q2),("is_crossed",.bl (tS b x y d)),("crossing_points",.int (dA (vD b x y d)+dA (zI b x y d)))]))) p=some (.ins A.aV dx [("letter",.int (sq (aH b x y))),("is_empty",.bl (aH b x y==0)),("before",.ref q1),("behind",.ref q2),("is_crossed",.bl (tS b x y d)),("crossing_points",.int (dA (vD b x y d)+dA (zI b x y d))),("letter_fold",.int (cG x y:Nat))]):=aK
  have b7:(L2.upd H7 p (.ins A.aV dx (fL "letter_fold" (.int (cG x y:Nat)) [("letter",.int (sq (aH b x y))),("is_empty",.bl (aH b x y==0)),("before",.ref q1),("behind",.ref q2),("is_crossed",.bl (tS b x y d)),("crossing_points",.int (dA (vD b x y d)+dA (zI b x y d)))]))) q1=some (.lst (cT (vD b x y d))):=by rw[aM (eK (s7 _ _ b6) (s7 _ _ p6) (by intro z;cases z))];exact s7 _ _ b6
  have c7:(L2.upd H7 p (.ins A.aV dx (fL "letter_fold" (.int (cG x y:Nat)) [("letter",.int (sq (aH b x y))),("is_empty",.bl (aH b x y==0)),("before",.ref q1),("behind",.ref q2),("is_crossed",.bl (tS b x y d)),("crossing_points",.int (dA (vD b x y d)+dA (zI b x y d)))]))) q2=some (.lst (cT (zI b x y d))):=by rw[aM (eK (s7 _ _ c6) (s7 _ _ p6) (by intro z;cases z))];exact s7 _ _ c6
  generalize L2.upd H7 p (.ins A.aV dx (fL "letter_fold" (.int (cG x y:Nat)) [("letter",.int (sq (aH b x y))),("is_empty",.bl (aH b x y==0)),("before",.ref q1),("behind",.ref q2),("is_crossed",.bl (tS b x y d)),("crossing_points",.int (dA (vD b x y d)+dA (zI b x y d)))]))=J7 at u7 p7 b7 c7 ⊢
  refine HY (fs:=[("letter",.int (sq (aH b x y))),("is_empty",.bl (aH b x y==0)),("before",.ref q1),("behind",.ref q2),("is_crossed",.bl (tS b x y d)),("crossing_points",.int (dA (vD b x y d)+dA (zI b x y d))),("letter_fold",.int (cG x y:Nat))]) (λv H8=>v=.int (fK x y:Nat)/\aZ J7 H8) rfl cl n8 (by show 7 < 1000;decide) (λR h=> ?_) (λv H1 g=>g.2 _ _ p7) ?_
  ·simp_arith
   exact⟨x0,x1,y0,y1,λH8 s8=>h _ _ ⟨rfl,s8⟩⟩
  rintro _ H8 ⟨rfl,s8⟩
  have u8:mE p H (L2.upd H8 p (.ins A.aV dx (fL "word_fold" (.int (fK x y:Nat)) [("letter",.int (sq (aH b x y))),("is_empty",.bl (aH b x y==0)),("before",.ref q1),("behind",.ref q2),("is_crossed",.bl (tS b x y d)),("crossing_points",.int (dA (vD b x y d)+dA (zI b x y d))),("letter_fold",.int (cG x y:Nat))]))):=(u7.andS s8).andU
  have p8:(L2.upd H8 p (.ins A.aV dx (fL "word_fold" (.int (fK x y:Nat)) [("letter",.int (sq (aH b x y))),("is_empty",.bl (aH b x y==0)),("before",.ref q1),("behind",.ref q2),("is_crossed",.bl (tS b x y d)),("crossing_points",.int (dA (vD b x y d)+dA (zI b x y d))),("letter_fold",.int (cG x y:Nat))]))) p=some (.ins A.aV dx [("letter",.int (sq (aH b x y))),("is_empty",.bl (aH b x y==0)),("before",.ref q1),("behind",.ref q2),("is_crossed",.bl (tS b x y d)),("crossing_points",.int (dA (vD b x y d)+dA (zI b x y d))),("letter_fold",.int (cG x y:Nat)),("word_fold",.int (fK x y:Nat))]):=aK
  have b8:(L2.upd H8 p (.ins A.aV dx (fL "word_fold" (.int (fK x y:Nat)) [("letter",.int (sq (aH b x y))),("is_empty",.bl (aH b x y==0)),("before",.ref q1),("behind",.ref q2),("is_crossed",.bl (tS b x y d)),("crossing_points",.int (dA (vD b x y d)+dA (zI b x y d))),("letter_fold",.int (cG x y:Nat))]))) q1=some (.lst (cT (vD b x y d))):=by rw[aM (eK (s8 _ _ b7) (s8 _ _ p7) (by intro z;cases z))];exact s8 _ _ b7
  have c8:(L2.upd H8 p (.ins A.aV dx (fL "word_fold" (.int (fK x y:Nat)) [("letter",.int (sq (aH b x y))),("is_empty",.bl (aH b x y==0)),("before",.ref q1),("behind",.ref q2),("is_crossed",.bl (tS b x y d)),("crossing_points",.int (dA (vD b x y d)+dA (zI b x y d))),("letter_fold",.int (cG x y:Nat))]))) q2=some (.lst (cT (zI b x y d))):=by rw[aM (eK (s8 _ _ c7) (s8 _ _ p7) (by intro z;cases z))];exact s8 _ _ c7
  generalize L2.upd H8 p (.ins A.aV dx (fL "word_fold" (.int (fK x y:Nat)) [("letter",.int (sq (aH b x y))),("is_empty",.bl (aH b x y==0)),("before",.ref q1),("behind",.ref q2),("is_crossed",.bl (tS b x y d)),("crossing_points",.int (dA (vD b x y d)+dA (zI b x y d))),("letter_fold",.int (cG x y:Nat))]))=J8 at u8 p8 b8 c8 ⊢
  exact k J8 q1 q2 fq1' fq2' u8 ⟨p8,b8,c8⟩
theorem Gu {K:PySem.W.Frag}{C:Addr}{H:Hp}{Qp:Hp->Prop}{E:XK}{a x0 dx:Addr}{b:List Nat}{x y d:Int}(ha:dX K H a (pV b))(hb:BM b)(hd:d=0\/d=1)(hon:0<=x/\x < 15/\0<=y/\y < 15)(nx:H x0=none)(nd:H dx=none)(ne:dx≠x0)
  (k:∀H' a1 a2,H a1=none->H a2=none->aZ H H'->vQ C H' x0 dx a1 a2 b x y d->Qp H'):MY K C [.ref x0,.ref a,.int x,.int y,.int d] (L2.upd (L2.upd H dx (.own x0)) x0 (.ins C dx [])) (λv H2=>v=.non/\Qp H2) E:=by
 have up:aZ H (L2.upd (L2.upd H dx (.own x0)) x0 (.ins C dx [])):=λc o e=>by
  rw[aM (bJ e nx),aM (bJ e nd)];exact e
 exact⟨x0,dx,a,b,x,y,d,rfl,aK,up.seq ha,hb,hd,hon,λH' a1 a2 f1 f2 bt S=>⟨rfl,k H' a1 a2 (up.free f1) (up.free f2) (aZ.made nx nd bt) S⟩⟩
def nE (b:List Nat)(x y d:Int)(c:Nat):List Nat:=if tS b x y d=true then vD b x y d++[c]++zI b x y d else[]
theorem EF:bV ["self","letter"] ["self","letter"] (defScope uI):=⟨rfl,rfl,rfl,by decide+kernel,rfl,by decide+kernel,by decide+kernel⟩
def AG (C:Addr):Sp:=λvs H Q _=>∃(p dx a1 a2:Addr) (b:List Nat) (x y d:Int) (c:Nat),vs=[.ref p,.int c]/\vQ C H p dx a1 a2 b x y d/\∀H' q,aZ H H'->H q=none->H' q=some (.lst (cT (nE b x y d c)))->Q (.ref q) H'
theorem yJ {C:Addr}{H:Hp}{Q:VK}{E:XK}{p dx a1 a2:Addr}{b:List Nat}{x y d:Int}{c:Nat}(S:vQ C H p dx a1 a2 b x y d)(k:∀H' q,aZ H H'->H q=none->H' q=some (.lst (cT (nE b x y d c)))->Q (.ref q) H'):AG C [.ref p,.int c] H Q E:=⟨p,dx,a1,a2,b,x,y,d,c,rfl,S,k⟩
theorem tJ (T:kR K mg A F):Ok P w K mg 1 A.fI F.fI ["self","letter"] (AG A.aV):=λbase bb=>by
 refine T.fI.F.ok EF (λvs H Q E h=> ?_) (λcdv Ar outer s H vs Q E hr h=> ?_)
 ·obtain⟨p,dx,a1,a2,b,x,y,d,c,rfl,_⟩:=h
  rfl
 ·obtain⟨p,dx,a1,a2,b,x,y,d,c,rfl,S,k⟩:=h
  refine⟨_,(aS (bU (kP (gI (bY (pv 0) rfl)) (eL GE (eL GE (bY (pv 0) rfl) (gJ (aB (pv 1) aL))) (bY (pv 0) rfl)) (gJ aL)))),?_⟩
  obtain⟨n1,n2,n3,n4,n5,n6,n7,n8⟩:=mF T
  have lB:(vD b x y d).length<=15:=by unfold vD;rw[rX];exact uD ..
  have lA:(zI b x y d).length<=15:=uD ..
  have cl:=T.aV.cl
  simp_arith [↓eY,S.at_,HO.ins.injEq,cl,n3,n4,n5,GO,DU,GN, ↓rQ]
  unfold nE at k
  split
  ·rename_i h
   rw[if_pos h] at k
   refine⟨by rw[aX];decide,λe2 he2=> ?_⟩
   have s2:aZ H (L2.upd H e2 (.lst [.int c])):=aZ.upd he2
   refine⟨a1,e2,_,_,rfl,rfl,s2 _ _ S.bf,aK,by rw[fX,aX];show _+1<=_;omega,λe3 he3=> ?_⟩
   have s3:=s2.trans (aZ.upd (o:=.lst (cT (vD b x y d)++[.int c])) he3)
   have S3:=S.same s3
   refine⟨_,_,_,S3.at_,cl,n4,_,DU ..,e3,a2,_,_,rfl,rfl,aK,S3.bh,?_,λe4 he4=> ?_⟩
   ·rw[bZ,fX,fX,aX]
    show _+1+_<=_
    omega
   ·refine k _ _ (s3.trans (aZ.upd he4)) (s3.free he4) ?_
    rw[aK]
    unfold cT
    rw[cC,cC];rfl
  ·rename_i h
   rw[if_neg h] at k
   exact⟨cA _,λe1 he1=>k _ _ (aZ.upd he1) he1 aK⟩
end
def Es:HO->Bool
 | .tbl _=>false
 | _=>true
structure Sm (P:Addr)(q:Str)(pos:Pos)(H H':Hp):Prop where
 k:∀{b o},H b=some o->Es o=true->H' b=some o
 tab:vX H P q pos->vX H' P q pos
 free:∀{b},H' b=none->H b=none
structure RC (Rl:Hp->Hp->Prop):Prop where
 same:∀{H H'},aZ H H'->Rl H H'
 trans:∀{H H1 H2},Rl H H1->Rl H1 H2->Rl H H2
 k:∀{H H' b o},Rl H H'->H b=some o->Es o=true->H' b=some o
 free:∀{H H' b},Rl H H'->H' b=none->H b=none
 put:∀{H H':Hp} {D:Addr} {xs ys:List V},Rl H H'->H D=none->H' D=some (.lst xs)->Rl H (L2.upd H' D (.lst ys))
theorem cS:RC aZ:=⟨id,aZ.trans,λe h _=>e _ _ h,λe h=>e.free h,λe h _ b o q=>by rw[aM (bJ q h)];exact e _ _ q⟩
theorem vX.put {H:Hp}{P D:Addr}{q:Str}{pos:Pos}{xs ys:List V}(t:vX H P q pos)(h:H D=some (.lst xs)):vX (L2.upd H D (.lst ys)) P q pos:=by
 obtain⟨ps,h1,h2⟩:=t
 refine⟨ps,by rw[aM (eK h1 h (by intro z;cases z))];exact h1,h2.imp id ?_⟩
 rintro⟨c,h3,h4⟩
 exact⟨c,h3,by rw[aM (eK h4 h (by intro z;cases z))];exact h4⟩
theorem Sm.same {P:Addr}{q:Str}{pos:Pos}{H H':Hp}(e:aZ H H'):Sm P q pos H H':=⟨λh _=>e _ _ h,λt=>t.same e,λh=>e.free h⟩
theorem Sm.trans {P:Addr}{q:Str}{pos:Pos}{H H1 H2:Hp}(a:Sm P q pos H H1)(b:Sm P q pos H1 H2):Sm P q pos H H2:=⟨λh n=>b.k (a.k h n) n,λt=>b.tab (a.tab t),λh=>a.free (b.free h)⟩
theorem Sm.put {P:Addr}{q:Str}{pos:Pos}{H H':Hp}{D:Addr}{xs ys:List V}(e:Sm P q pos H H')(h:H D=none)(hD:H' D=some (.lst xs)):Sm P q pos H (L2.upd H' D (.lst ys)):=
 ⟨λ{b o} q n=>by rw[aM (bJ q h)];exact e.k q n,λt=>(e.tab t).put hD,λ{b} z=>by
  by_cases hb:b=D
  ·rw[hb,aK] at z;cases z
  ·rw[aM hb] at z;exact e.free z⟩
theorem BZ (P:Addr)(q:Str)(pos:Pos):RC (Sm P q pos):=⟨Sm.same,Sm.trans,λe h n=>e.k h n,λe h=>e.free h,Sm.put⟩
theorem RC.seq {Rl:Hp->Hp->Prop}(R:RC Rl){K:PySem.W.Frag}{H H':Hp}{a:Addr}{xs:List V}(e:Rl H H')(q:dX K H a xs):dX K H' a xs:=by
 rcases q with(q | ⟨o,q⟩) | q
 ·exact .inl (.inl (R.k e q rfl))
 ·exact .inl (.inr ⟨o,R.k e q rfl⟩)
 ·exact .inr q
theorem RC.seqT {Rl:Hp->Hp->Prop}(R:RC Rl){K:PySem.W.Frag}{H H':Hp}{a:Addr}{xs:List V}(e:Rl H H')(q:KH K H a xs):KH K H' a xs:=by
 rcases q with(q | ⟨o,q⟩) | q
 ·exact .inl (.inl (R.k e q rfl))
 ·exact .inl (.inr ⟨o,R.k e q rfl⟩)
 ·exact .inr q
def Bt (D:Addr)(H H':Hp):Prop:=∀c o,H c=some o->c≠D->Es o=true->H' c=some o
structure Rq {α:Type}(Rl:Hp->Hp->Prop)(keep:α->Bool)(G:α->V->Hp->Prop)(D:Addr)(H:Hp)(acc:List V)(x:α)(Nx:Hp->Prop):Prop where
 yes:keep x=true->∀H4 y,Rl H H4->(∀H5,Bt D H4 H5->G x y H5)->Nx (L2.upd H4 D (.lst (acc++[y])))
 no:keep x=false->∀H4,Rl H H4->Nx H4
theorem Rq.add {α:Type}{Rl:Hp->Hp->Prop}{keep:α->Bool}{G:α->V->Hp->Prop}{D:Addr}{H H4:Hp}{acc:List V}{x:α}{Nx:Hp->Prop}{y:V}(k:Rq Rl keep G D H acc x Nx)(hk:keep x=true)(hD:H D=some (.lst acc))(hz:acc.length < sizeLine)(R:RC Rl)(e:Rl H H4)(g:∀H5,Bt D H4 H5->G x y H5):
  ∃acc,H4 D=some (.lst acc)/\acc.length < sizeLine/\Nx (L2.upd H4 D (.lst (acc++[y]))):=⟨acc,R.k e hD rfl,hz,k.yes hk H4 y e g⟩
theorem U4 {α:Type}{Rl:Hp->Hp->Prop}(R:RC Rl){J:It}{g:TG}{tt:TT}{te:TE}{vs:List Nat}{σ:L2.St}{H1:Hp}{D:Addr}{Qd:Hp->Prop}(xs:List α)(keep:α->Bool)(G:α->V->Hp->Prop)(hD:H1 D=none)(hz:xs.length<=sizeLine)
  (go:∀(i:Nat) H,i < xs.length->Rl H1 H->J.go i H) (stop:∀H,Rl H1 H->J.stop xs.length H)
  (turn:∀(i:Nat) x H acc Nx,xs[i]? =some x->Rl H1 H->H D=some (.lst acc)->acc.length < sizeLine->Rq Rl keep G D H acc x Nx->∀v H',J.yld i H v H'->g v (jS σ vs) H' λσ2 H2=>jS σ2 vs=jS σ vs/\tt σ2 H2 λb H3=>
   if b=true then te σ2 H3 λy H4=>∃acc,H4 D=some (.lst acc)/\acc.length < sizeLine/\Nx (L2.upd H4 D (.lst (acc++[y]))) else Nx H3)
  (hd:∀H ys,Rl H1 H->H D=some (.lst ys)->Paired (λx y=>G x y H) (xs.filter keep) ys->Qd H):
  ∃W:Nat->Nat->Hp->Prop,(∃m,W 0 m (L2.upd H1 D (.lst [])))/\∀i m H,W i m H->
   (J.stop i H/\Qd H)\/(J.go i H/\∃Nx:Hp->Prop,(∀H',Nx H'->∃m',m' < m/\W (i+1) m' H')/\∀x H',J.yld i H x H'->g x (jS σ vs) H' λσ2 H2=>jS σ2 vs=jS σ vs/\tt σ2 H2 λb H3=>
    if b=true then te σ2 H3 λy H4=>∃acc,H4 D=some (.lst acc)/\acc.length < sizeLine/\Nx (L2.upd H4 D (.lst (acc++[y]))) else Nx H3):=by
 let I:Nat->Hp->Prop:=λi H=>Rl H1 H/\∃ys,H D=some (.lst ys)/\Paired (λx y=>∀H5,Bt D H H5->G x y H5) ((xs.take i).filter keep) ys
 refine⟨λi m H=>i<=xs.length/\m=xs.length - i/\I i H,⟨_,cA _,rfl,R.same (aZ.upd hD),[],aK,by simpa using Paired.nil⟩,?_⟩
 rintro i m H ⟨hi,rfl,r1,ys,hy,hp⟩
 by_cases he:i=xs.length
 ·subst he
  rw[qR] at hp
  exact .inl ⟨stop H r1,hd H ys r1 hy (Paired.mapP hp λx y z=>z H (λc o h _ _=>h))⟩
 ·have hlt:i < xs.length:=by omega
  obtain⟨x,hx⟩:∃x,xs[i]? =some x:=⟨_,aE hlt⟩
  have ht:xs.take (i+1)=xs.take i++[x]:=by rw[jV,hx];rfl
  have hlen:ys.length < sizeLine:=by
   have h1:=Paired.length hp
   have h2:((xs.take i).filter keep).length<=(xs.take i).length:=jI _ _
   rw[iH] at h2
   omega
  refine .inr ⟨go i H hlt r1,I (i+1),λH' q=>⟨_,(by omega:xs.length - (i+1) < xs.length - i),by omega,rfl,q⟩,?_⟩
  refine turn i x H ys (I (i+1)) hx r1 hy hlen ⟨λhk H4 y e4 gy=> ?_,λhk H4 e4=> ?_⟩
  ·refine⟨?_,ys++[y],aK,?_⟩
   ·exact R.put (R.trans r1 e4) hD (R.k e4 hy rfl)
   ·rw[ht,UB,iJ (by exact hk),P7]
    refine Paired.snoc (Paired.mapP hp λx y z H5 b5=>z H5 λc o h n t=>b5 c o ?_ n t) λH5 b5=>gy H5 λc o h n t=>b5 c o ?_ n t
    ·rw[aM n];exact R.k e4 h t
    ·rw[aM n];exact h
  ·refine⟨R.trans r1 e4,ys,R.k e4 hy rfl,?_⟩
   rw[ht,UB,kI (by rw[hk];simp),P7,eX]
   exact Paired.mapP hp λx y z H5 b5=>z H5 λc o h n t=>b5 c o (R.k e4 h t) n t
section
variable {α:Type}{Rl:Hp->Hp->Prop}{K:PySem.W.Frag}{g:TG}{tt:TT}{te:TE}{vs:List Nat}{σ:L2.St}{H:Hp}{Q:VK}{xs:List α}
abbrev Kj (Rl:Hp->Hp->Prop)(keep:α->Bool)(G:α->V->Hp->Prop)(g:TG)(tt:TT)(te:TE)(vs:List Nat)(σ:L2.St)(D:Addr)(x:α)(H:Hp)(v:V)(H':Hp):Prop:=∀acc Nx,H D=some (.lst acc)->acc.length < sizeLine->Rq Rl keep G D H acc x Nx->g v (jS σ vs) H' λσ2 H2=>jS σ2 vs=jS σ vs/\tt σ2 H2 λb H3=>
   if b=true then te σ2 H3 λy H4=>∃acc,H4 D=some (.lst acc)/\acc.length < sizeLine/\Nx (L2.upd H4 D (.lst (acc++[y]))) else Nx H3
theorem bx {tl:TE}(R:RC Rl)(e:α->V)(keep:α->Bool)(G:α->V->Hp->Prop)(C:Addr->Hp->Prop)(htl:∀R:VK,(∀a H1,C a H1->R (.ref a) H1)->tl σ H R)(hl:∀a H1,C a H1->dX K H1 a (xs.map e))(hz:xs.length<=sizeLine)
  (hs:∀a H1 D,C a H1->H1 D=none->∀(i:Nat) x H',xs[i]? =some x->Rl H1 H'->Kj Rl keep G g tt te vs σ D x H' (e x) H')
  (hd:∀a H1 D H' ys,C a H1->H1 D=none->Rl H1 H'->H' D=some (.lst ys)->Paired (λx y=>G x y H') (xs.filter keep) ys->Q (.ref D) H'):Uu (Cc K tl) g tt te vs σ H Q:=by
 refine htl _ λa H1 c=>⟨a,rfl,⟨_,hl a H1 c⟩,λD hD=>U4 R xs keep G hD hz (λi H' hi r=> ?_) (λH' r=>⟨_,R.seq r (hl a H1 c),by rw[aA];exact aU _⟩) (λi x H' acc Nx hx r hy hz' ad v H'' y=> ?_) λH' ys r hy hp=>hd a H1 D H' ys c hD r hy hp⟩
 ·exact⟨_,e xs[i],R.seq r (hl a H1 c),by rw[aP,aE hi];rfl⟩
 ·obtain⟨rfl,y⟩:=y
  have z:=y _ (R.seq r (hl a H1 c))
  rw[aP,hx] at z
  cases z
  exact hs a H1 D c hD i x H'' hx r acc Nx hy hz' ad
theorem F7 {ta:TA}{n:Nat}(R:RC Rl)(keep:Nat->Bool)(G:Nat->V->Hp->Prop)(hta:∀R:List V->Hp->Prop,R [.int (n:Int)] H->ta σ H R)(hz:n<=sizeLine)
  (hs:∀D,H D=none->∀(i:Nat) H',i < n->Rl H H'->Kj Rl keep G g tt te vs σ D i H' (.int (i:Nat)) H')
  (hd:∀D H' ys,H D=none->Rl H H'->H' D=some (.lst ys)->Paired (λx y=>G x y H') ((bA n).filter keep) ys->Q (.ref D) H'):Uu (Ql ta) g tt te vs σ H Q:=by
 have hs2:sizeLine=16777216:=aX
 refine hta _ ⟨n,rfl,by omega,by omega,λD hD=> ?_⟩
 rw[kN]
 refine U4 R (bA n) keep G hD (by rw[cR];exact hz) (λi H' hi r=>by rw[cR] at hi;exact hi) (λH' r=>by rw[cR];exact aU n) (λi x H' acc Nx hx r hy hz' ad v H'' y=> ?_) λH' ys r hy hp=>hd D H' ys hD r hy hp
 obtain⟨rfl,rfl⟩:=y
 obtain⟨h1,h2⟩:=bL.mp hx
 rw[List.getElem_range] at h2
 subst h2
 rw[cR] at h1
 have e0:(0:Int)+(i:Int)=(i:Int):=by omega
 rw[e0]
 exact hs D hD i H'' h1 r acc Nx hy hz' ad
theorem lcE {ta:TA}(R:RC Rl)(e:α->V)(keep:α->Bool)(G:α->V->Hp->Prop)(a:Addr)(hta:∀R:List V->Hp->Prop,R [.ref a] H->ta σ H R)(hl:dX K H a (xs.map e))(hz:xs.length<=sizeLine)
  (hs:∀D,H D=none->∀(i:Nat) x H' T,xs[i]? =some x->Rl H H'->H' T=none->Kj Rl keep G g tt te vs σ D x H' (.ref T) (L2.upd H' T (.tup [.int (i:Nat),e x])))
  (hd:∀D H' ys,H D=none->Rl H H'->H' D=some (.lst ys)->Paired (λx y=>G x y H') (xs.filter keep) ys->Q (.ref D) H'):Uu (Xz K ta) g tt te vs σ H Q:=by
 refine hta _ ⟨a,_,rfl,hl,λD hD=>U4 R xs keep G hD hz (λi H' hi r=> ?_) (λH' r=>⟨_,R.seq r hl,by rw[aA];exact aU _⟩) (λi x H' acc Nx hx r hy hz' ad v H'' y=> ?_) λH' ys r hy hp=>hd D H' ys hD r hy hp⟩
 ·exact⟨_,e xs[i],R.seq r hl,by rw[aP,aE hi];rfl⟩
 ·obtain⟨T,x',rfl,hT,rfl,z⟩:=y
  have z:=z _ (R.seq r hl)
  rw[aP,hx] at z
  cases z
  exact hs D hD i x H' T hx r hT acc Nx hy hz' ad
theorem bu {β:Type}{ta:TA}{zs:List β}(R:RC Rl)(e:α->V)(f:β->V)(keep:α×β->Bool)(G:α×β->V->Hp->Prop)(a b:Addr)(hta:∀R:List V->Hp->Prop,R [.ref a,.ref b] H->ta σ H R)(hl:dX K H a (xs.map e))(hl2:KH K H b (zs.map f))(hz:xs.length<=sizeLine)(hlen:xs.length=zs.length)
  (hs:∀D,H D=none->∀(i:Nat) x z H' T,xs[i]? =some x->zs[i]? =some z->Rl H H'->H' T=none->Kj Rl keep G g tt te vs σ D (x,z) H' (.ref T) (L2.upd H' T (.tup [e x,f z])))
  (hd:∀D H' ys,H D=none->Rl H H'->H' D=some (.lst ys)->Paired (λx y=>G x y H') ((xs.zip zs).filter keep) ys->Q (.ref D) H'):Uu (z5 K ta) g tt te vs σ H Q:=by
 have hzl:(xs.zip zs).length=xs.length:=by rw[sZ];omega
 refine hta _ ⟨a,b,_,_,rfl,hl,hl2,λD hD=>U4 R (xs.zip zs) keep G hD (by omega) (λi H' hi r=> ?_) (λH' r=>⟨_,_,R.seq r hl,R.seqT r hl2,.inl (by rw[aA];omega)⟩) (λi x H' acc Nx hx r hy hz' ad v H'' y=> ?_) λH' ys r hy hp=>hd D H' ys hD r hy hp⟩
 ·have h1:i < xs.length:=by omega
  have h2:i < zs.length:=by omega
  exact⟨_,_,e xs[i],f zs[i],R.seq r hl,R.seqT r hl2,by rw[aP,aE h1];rfl,by rw[aP,aE h2];rfl⟩
 ·obtain⟨T,x',y',rfl,hT,rfl,z1,z2⟩:=y
  have z1:=z1 _ (R.seq r hl)
  have z2:=z2 _ (R.seqT r hl2)
  obtain⟨x1,x2⟩:=x
  have hx':=mB.mp hx
  rw[aP,hx'.1] at z1
  rw[aP,hx'.2] at z2
  cases z1
  cases z2
  exact hs D hD i x1 x2 H' T hx'.1 hx'.2 r hT acc Nx hy hz' ad
end
theorem Tn {J:It}{g:TG}{tb:TS}{D:DA}{σ:L2.St}{H:Hp}(n:Nat)(Pv:Nat->L2.St->Hp->Prop)(h0:Pv 0 σ H)(go:∀i σ' H',i < n->Pv i σ' H'->J.go i H')(stop:∀σ' H',Pv n σ' H'->J.stop n H')
  (hs:∀(i:Nat) σ' H' x H2,i < n->Pv i σ' H'->J.yld i H' x H2->g x σ' H2 λσ2 H2=>tb { D with nx:=Pv (i+1),ct:=Pv (i+1),bk:=D.nx } σ2 H2) (hd:∀σ' H',Pv n σ' H'->D.nx σ' H'):
  ∃W:Nat->Nat->L2.St->Hp->Prop,(∃m,W 0 m σ H)/\∀i m σ H,W i m σ H->
   (J.stop i H/\D.nx σ H)\/(J.go i H/\∃N:L2.St->Hp->Prop,(∀σ' H',N σ' H'->∃m',m' < m/\W (i+1) m' σ' H')/\∀x H',J.yld i H x H'->g x σ H' λσ2 H2=>tb { D with nx:=N,ct:=N,bk:=D.nx } σ2 H2):=by
 refine⟨λi m σ H=>m=n - i/\i<=n/\Pv i σ H,⟨n,by simp,cA _,h0⟩,?_⟩
 rintro i m σ' H' ⟨rfl,hi,p⟩
 by_cases he:i=n
 ·subst he
  exact .inl ⟨stop σ' H' p,hd σ' H' p⟩
 ·have hlt:i < n:=by omega
  exact .inr ⟨go i σ' H' hlt p,Pv (i+1),λσ2 H2 q=>⟨_,(by omega:n - (i+1) < n - i),rfl,by omega,q⟩,λx H2 y=>hs i σ' H' x H2 hlt p y⟩
section
variable {α:Type}{K:PySem.W.Frag}{g:TG}{tb:TS}{D:DA}{σ:L2.St}{H:Hp}{xs:List α}
theorem cq {ta:TA}(e:α->V)(a:Addr)(hta:∀R:List V->Hp->Prop,R [.ref a] H->ta σ H R)(Pv:Nat->L2.St->Hp->Prop)(h0:Pv 0 σ H)(hl:∀i σ' H',Pv i σ' H'->dX K H' a (xs.map e))
  (hs:∀(i:Nat) x σ' H' T,xs[i]? =some x->Pv i σ' H'->H' T=none->g (.ref T) σ' (L2.upd H' T (.tup [.int (i:Nat),e x])) λσ2 H2=>tb { D with nx:=Pv (i+1),ct:=Pv (i+1),bk:=D.nx } σ2 H2) (hd:∀σ' H',Pv xs.length σ' H'->D.nx σ' H'):ZJ (Xz K ta) g tb D σ H:=by
 refine hta _ ⟨a,_,rfl,hl 0 σ H h0,Tn xs.length Pv h0 (λi σ' H' hi p=>⟨_,e xs[i],hl i σ' H' p,by rw[aP,aE hi];rfl⟩) (λσ' H' p=>⟨_,hl _ σ' H' p,by rw[aA];exact aU _⟩) (λi σ' H' x H2 hi p y=> ?_) hd⟩
 obtain⟨T,x',rfl,hT,rfl,z⟩:=y
 have z:=z _ (hl i σ' H' p)
 rw[aP,aE hi] at z
 cases z
 exact hs i _ σ' H' T (aE hi) p hT
theorem cf {β:Type}{ta:TA}{zs:List β}(e:α->V)(f:β->V)(a b:Addr)(hta:∀R:List V->Hp->Prop,R [.ref a,.ref b] H->ta σ H R)(Pv:Nat->L2.St->Hp->Prop)(h0:Pv 0 σ H)(hlen:xs.length=zs.length)(hl:∀i σ' H',Pv i σ' H'->dX K H' a (xs.map e)/\dX K H' b (zs.map f))
  (hs:∀(i:Nat) x z σ' H' T,xs[i]? =some x->zs[i]? =some z->Pv i σ' H'->H' T=none->g (.ref T) σ' (L2.upd H' T (.tup [e x,f z])) λσ2 H2=>tb { D with nx:=Pv (i+1),ct:=Pv (i+1),bk:=D.nx } σ2 H2) (hd:∀σ' H',Pv xs.length σ' H'->D.nx σ' H'):ZJ (U6 K ta) g tb D σ H:=by
 refine hta _ ⟨a,b,_,_,rfl,(hl 0 σ H h0).1,(hl 0 σ H h0).2,Tn xs.length Pv h0 (λi σ' H' hi p=> ?_) (λσ' H' p=>⟨_,_,(hl _ σ' H' p).1,(hl _ σ' H' p).2,.inl (by rw[aA];exact aU _)⟩) (λi σ' H' x H2 hi p y=> ?_) hd⟩
 ·have h2:i < zs.length:=by omega
  exact⟨_,_,e xs[i],f zs[i],(hl i σ' H' p).1,(hl i σ' H' p).2,by rw[aP,aE hi];rfl,by rw[aP,aE h2];rfl⟩
 ·have h2:i < zs.length:=by omega
  obtain⟨T,x',y',rfl,hT,rfl,z1,z2⟩:=y
  have z1:=z1 _ (hl i σ' H' p).1
  have z2:=z2 _ (hl i σ' H' p).2
  rw[aP,aE hi] at z1
  rw[aP,aE h2] at z2
  cases z1
  cases z2
  exact hs i _ _ σ' H' T (aE hi) (aE h2) p hT
theorem cg {tl:TE}(e:α->V)(a:Addr)(htl:∀R:VK,R (.ref a) H->tl σ H R)(Pv:Nat->L2.St->Hp->Prop)(h0:Pv 0 σ H)(hl:∀i σ' H',Pv i σ' H'->KH K H' a (xs.map e))
  (hs:∀(i:Nat) x σ' H',xs[i]? =some x->Pv i σ' H'->g (e x) σ' H' λσ2 H2=>tb { D with nx:=Pv (i+1),ct:=Pv (i+1),bk:=D.nx } σ2 H2) (hd:∀σ' H',Pv xs.length σ' H'->D.nx σ' H'):ZJ (U7 K tl) g tb D σ H:=by
 refine htl _ ⟨a,rfl,⟨_,hl 0 σ H h0⟩,Tn xs.length Pv h0 (λi σ' H' hi p=>⟨_,e xs[i],hl i σ' H' p,by rw[aP,aE hi];rfl⟩) (λσ' H' p=>⟨_,hl _ σ' H' p,by rw[aA];exact aU _⟩) (λi σ' H' x H2 hi p y=> ?_) hd⟩
 obtain⟨rfl,z⟩:=y
 have z:=z _ (hl i σ' H2 p)
 rw[aP,aE hi] at z
 cases z
 exact hs i _ σ' H2 (aE hi) p
theorem cj {ta:TA}{lo n:Nat}(hta:∀R:List V->Hp->Prop,R [.int (lo:Int),.int ((lo+n:Nat):Int)] H->ta σ H R)(hz:lo+n<=sizeLine)(Pv:Nat->L2.St->Hp->Prop)(h0:Pv 0 σ H)
  (hs:∀(i:Nat) σ' H',i < n->Pv i σ' H'->g (.int ((lo+i:Nat):Int)) σ' H' λσ2 H2=>tb { D with nx:=Pv (i+1),ct:=Pv (i+1),bk:=D.nx } σ2 H2) (hd:∀σ' H',Pv n σ' H'->D.nx σ' H'):ZJ (Xx ta) g tb D σ H:=by
 have hs2:sizeLine=16777216:=aX
 refine hta _ ⟨lo,(lo+n:Nat),rfl,⟨by omega,by omega,by omega,by omega⟩,?_⟩
 have e0:(((lo+n:Nat):Int) - (lo:Int)).toNat=n:=by omega
 rw[e0]
 refine Tn n Pv h0 (λi σ' H' hi p=>hi) (λσ' H' p=>aU n) (λi σ' H' x H2 hi p y=> ?_) hd
 obtain⟨rfl,rfl⟩:=y
 have e1:(lo:Int)+(i:Int)=((lo+i:Nat):Int):=by omega
 rw[e1]
 exact hs i σ' H2 hi p
theorem cn {td:TE}{kvs:List (mX×V)}(d:Addr)(htd:∀R:VK,R (.ref d) H->td σ H R)(od:Obj)(Pv:Nat->L2.St->Hp->Prop)(h0:Pv 0 σ H)(hl:∀i σ' H',Pv i σ' H'->H' d=some (.frz od (.dK kvs)))
  (hs:∀(i:Nat) k v σ' H' T,kvs[i]? =some (k,v)->Pv i σ' H'->H' T=none->g (.ref T) σ' (L2.upd H' T (.tup [kV k,v])) λσ2 H2=>tb { D with nx:=Pv (i+1),ct:=Pv (i+1),bk:=D.nx } σ2 H2) (hd:∀σ' H',Pv kvs.length σ' H'->D.nx σ' H'):ZJ (Xy td) g tb D σ H:=by
 refine htd _ ⟨d,od,kvs,rfl,hl 0 σ H h0,Tn kvs.length Pv h0 (λi σ' H' hi p=>⟨hl i σ' H' p,hi⟩) (λσ' H' p=>⟨hl _ σ' H' p,aU _⟩) (λi σ' H' x H2 hi p y=> ?_) hd⟩
 obtain⟨T,k,v,hk,rfl,hT,rfl⟩:=y
 exact hs i k v σ' H' T hk p hT
theorem ck {td:TE}{kvs:List (List mX×V)}(d:Addr)(htd:∀R:VK,R (.ref d) H->td σ H R)(od:Obj)(Pv:Nat->L2.St->Hp->Prop)(h0:Pv 0 σ H)(hl:∀i σ' H',Pv i σ' H'->H' d=some (.frz od (.dT kvs)))
  (hs:∀(i:Nat) k v q σ' H',kvs[i]? =some (k,v)->Pv i σ' H'->H' q=some (.tup (k.map kV))->g (.ref q) σ' H' λσ2 H2=>tb { D with nx:=Pv (i+1),ct:=Pv (i+1),bk:=D.nx } σ2 H2) (hd:∀σ' H',Pv kvs.length σ' H'->D.nx σ' H'):ZJ (z6 td) g tb D σ H:=by
 refine htd _ ⟨d,od,rfl,.inr ⟨kvs,hl 0 σ H h0,Tn kvs.length Pv h0 (λi σ' H' hi p=>⟨hl i σ' H' p,hi⟩) (λσ' H' p=>⟨hl _ σ' H' p,aU _⟩) (λi σ' H' x H2 hi p y=> ?_) hd⟩⟩
 obtain⟨rfl,k,v,q,hk,rfl,hq⟩:=y
 exact hs i k v q σ' H2 hk p hq
theorem OF {i j T:Addr}{x y:V}{H1:Hp}{Q:L2.St->Hp->Prop}(h:H1 T=some (.tup [x,y]))(k:Q ((σ.set i (some x)).set j (some y)) H1):I0 K 2 (Ye (GU i) (Ye (GU j) U9)) (.ref T) σ H1 Q:=
 ⟨T,[x,y],rfl,.inl (.inl h),rfl,x,[y],rfl,y,[],rfl,rfl,k⟩
end
def KI (C:Addr)(H:Hp)(b:List Nat)(d:Int)(p:Addr)(c:Int×Int):Prop:=∃dx a1 a2,vQ C H p dx a1 a2 b c.1 c.2 d
def tM (H0:Hp)(C:Addr)(H:Hp)(b:List Nat)(d:Int)(p:Addr)(c:Int×Int):Prop:=∃dx a1 a2,vQ C H p dx a1 a2 b c.1 c.2 d/\H0 p=none/\H0 a1=none/\H0 a2=none
theorem tM.p {H0 H:Hp}{C:Addr}{b:List Nat}{d:Int}{p:Addr}{c:Int×Int}(h:tM H0 C H b d p c):KI C H b d p c:=let ⟨dx,a1,a2,s,_⟩:=h;⟨dx,a1,a2,s⟩
theorem tM.bt {H0 H H5:Hp}{C D:Addr}{o:HO}{b:List Nat}{d:Int}{p:Addr}{c:Int×Int}(h:tM H0 C H b d p c)(hD:H0 D=some o)(e:Bt D H H5):tM H0 C H5 b d p c:=by
 obtain⟨dx,a1,a2,s,f0,f1,f2⟩:=h
 exact⟨dx,a1,a2,⟨e _ _ s.at_ (λz=>by rw[z,hD] at f0;cases f0) rfl,e _ _ s.bf (λz=>by rw[z,hD] at f1;cases f1) rfl,e _ _ s.bh (λz=>by rw[z,hD] at f2;cases f2) rfl⟩,f0,f1,f2⟩
structure oG (K:PySem.W.Frag)(C:Addr)(H:Hp)(a:Addr)(b:List Nat)(d:Int)(zs:List (Addr×(Int×Int))):Prop where
 at_:dX K H a (zs.map λz=>V.ref z.1)
 each:∀z∈zs,KI C H b d z.1 z.2
theorem KI.rel {Rl:Hp->Hp->Prop}(R:RC Rl){C:Addr}{H H':Hp}{b:List Nat}{d:Int}{p:Addr}{c:Int×Int}(e:Rl H H')(h:KI C H b d p c):KI C H' b d p c:=by
 obtain⟨dx,a1,a2,s⟩:=h
 exact⟨dx,a1,a2,R.k e s.at_ rfl,R.k e s.bf rfl,R.k e s.bh rfl⟩
theorem oG.rel {Rl:Hp->Hp->Prop}(R:RC Rl){K:PySem.W.Frag}{C:Addr}{H H':Hp}{a:Addr}{b:List Nat}{d:Int}{zs:List (Addr×(Int×Int))}(e:Rl H H')(h:oG K C H a b d zs):oG K C H' a b d zs:=⟨R.seq e h.at_,λz hz=>(h.each z hz).rel R e⟩
theorem oG.same {K:PySem.W.Frag}{C:Addr}{H H':Hp}{a:Addr}{b:List Nat}{d:Int}{zs:List (Addr×(Int×Int))}(h:oG K C H a b d zs)(e:aZ H H'):oG K C H' a b d zs:=h.rel cS e
theorem vQ.bt {C:Addr}{H H':Hp}{p dx a1 a2 D:Addr}{b:List Nat}{x y d:Int}{xs:List V}(h:vQ C H p dx a1 a2 b x y d)(hD:H D=some (.lst xs))(n1:a1≠D)(n2:a2≠D)(e:Bt D H H'):vQ C H' p dx a1 a2 b x y d:=
 ⟨e _ _ h.at_ (eK h.at_ hD (by intro z;cases z)) rfl,e _ _ h.bf n1 rfl,e _ _ h.bh n2 rfl⟩
theorem HU {α β:Type}{S:Addr->β->Prop}(f:α->β):∀{is:List α} {ys:List V},Paired (λi v=>∃p,v=V.ref p/\S p (f i)) is ys->∃zs:List (Addr×β),ys=zs.map (λz=>V.ref z.1)/\zs.map (λz=>z.2)=is.map f/\∀z∈zs,S z.1 z.2
 | _,_,.nil=>⟨[],rfl,rfl,λz h=>by simp at h⟩
 | _,_,.cons (a:=i) ⟨p,e,s⟩ t=>by
  obtain⟨zs,h1,h2,h3⟩:=HU f t
  refine⟨(p,f i)::zs,by rw[e,h1];rfl,by rw[aJ,aJ,h2],λz hz=> ?_⟩
  rcases bN.mp hz with rfl | hz
  ·exact s
  ·exact h3 z hz
theorem tZ {α:Type}(l:List α):l.filter (λ_=>true)=l:=RN.mpr λ_ _=>rfl
def dB (x y d:Int)(n:Nat):List (Int×Int):=(bA n).map λ(i:Nat)=>bQ x y d i
theorem Yo {x y d:Int}(hd:d=0\/d=1)(i:Int):bQ x y d i=(x+i * (1 - d),y+i * d):=by
 unfold bQ
 rcases hd with rfl | rfl <;> simp
section
variable {P:bS}{w:cY}{K:PySem.W.Frag}{mg:Str->Option aC}{A:Ad}{F:Fd}
abbrev Ag:List Str:=["squares","x","y","down","length","step"]
theorem zJ:bV ["squares","x","y","down","length","step"] ["squares","x","y","down","length"] (defScope BY):=⟨rfl,rfl,rfl,by decide+kernel,rfl,by decide+kernel,by decide+kernel⟩
def JF (K:PySem.W.Frag)(C:Addr):Sp:=λvs H Q _=>∃(a:Addr) (b:List Nat) (x y d:Int) (n:Nat),vs=[.ref a,.int x,.int y,.int d,.int n]/\dX K H a (pV b)/\BM b/\(d=0\/d=1)/\n<=15/\Fw x y d n/\
 ∀H' q zs,aZ H H'->H q=none->H' q=some (.lst (zs.map λz=>V.ref z.1))->oG K C H' q b d zs->(∀z∈zs,tM H C H' b d z.1 z.2)->zs.map (λz=>z.2)=dB x y d n->Q (.ref q) H'
theorem FC {K:PySem.W.Frag}{C:Addr}{H:Hp}{Q:VK}{E:XK}{a:Addr}{b:List Nat}{x y d:Int}{n:Nat}(ha:dX K H a (pV b))(hb:BM b)(hd:d=0\/d=1)(hn:n<=15)(hon:Fw x y d n)
  (k:∀H' q zs,aZ H H'->H q=none->H' q=some (.lst (zs.map λz=>V.ref z.1))->oG K C H' q b d zs->(∀z∈zs,tM H C H' b d z.1 z.2)->zs.map (λz=>z.2)=dB x y d n->Q (.ref q) H'):JF K C [.ref a,.int x,.int y,.int d,.int n] H Q E:=⟨a,b,x,y,d,n,rfl,ha,hb,hd,hn,hon,k⟩
theorem JV (T:kR K mg A F):Ok P w K mg 6 A.mY F.mY ["squares","x","y","down","length"] (JF K A.aV):=λbase bb=>by
 refine T.mY.F.ok zJ (λvs H Q E h=> ?_) (λcdv Ar outer s H vs Q E hr h=> ?_)
 ·obtain⟨a,b,x,y,d,n,rfl,_⟩:=h
  rfl
 ·obtain⟨a,b,x,y,d,n,rfl,ha,hb,hd,hn,hon,k⟩:=h
  refine⟨_,(aS (bU (tI rfl zJ.nd (tX rfl T.wN (aB (pv 4) aL)) (fN (N:=Ag) (sc:=defScope BY) (own:=[("step",5)]) (by decide+kernel)) (λ_ _ _ _ _=>(dG (i:=5) zJ.nd rfl (cB rfl))) (λ_ _ _ _ _=>oE) (λ_ _ _ _ _=>(y9 T.Pu T.aV T.nU (NR T base bb) hr (aB (pv 0) (aB (eL jR (pv 1) (eL vH (pv 5) (eL sN dS (pv 3)))) (aB (eL jR (pv 2) (eL vH (pv 5) (pv 3))) (aB (pv 3) aL))))))))),?_⟩
  simp_arith
  refine F7 (n:=n) cS (λ_=>true) (λi v H'=>∃p,v=.ref p/\tM H A.aV H' b d p (bQ x y d (i:Nat))) (λR h=>h) (KS hn) ?_ ?_
  ·intro D hD i H' hi s1 acc Nx hacc hz ad
   have hi2:(i:Int) < 15:=by omega
   simp_arith [↓AQ]
   refine⟨.inl ⟨by omega,by omega⟩,.inl ⟨by omega,by omega⟩,λx0 dx nx nd ne=> ?_⟩
   have hc:=Yo (x:=x) (y:=y) hd (i:Int)
   refine Gu (s1.seq ha) hb hd ?_ nx nd ne λH2 a1 a2 f1 f2 s2 S=> ?_
   ·have:=hon i hi
    rw[hc] at this
    exact this
   ·refine ad.add rfl hacc hz cS s2 λH5 b5=>⟨x0,rfl,dx,a1,a2,?_,s1.free nx,s1.free f1,s1.free f2⟩
    rw[hc]
    exact S.bt (s2 _ _ hacc) (λz=>by rw[z,hacc] at f1;cases f1) (λz=>by rw[z,hacc] at f2;cases f2) b5
  ·intro D H' ys hD s1 hy hp
   rw[tZ] at hp
   obtain⟨zs,rfl,h2,h3⟩:=HU (λi:Nat=>bQ x y d i) hp
   exact k H' D zs s1 hD hy ⟨dX.of hy,λz hz=>(h3 z hz).p⟩ h3 h2
end
theorem CW.updD {H H4:Hp}{D:Addr}{o:HO}(e:aZ H H4):∀{qs:List Addr} {cs:List (List Nat)},CW H qs cs->D ∉ qs->CW (L2.upd H4 D o) qs cs
 | _,_,.nil,_=>.nil
 | _,_,.cons r t,h=>by
  rw[bN,not_or] at h
  refine .cons ?_ (CW.updD e t h.2)
  rw[aM (fE h.1)]
  exact e _ _ r
theorem lcP {α:Type}{K:PySem.W.Frag}{tl:TE}{g:TG}{te:TE}{vs:List Nat}{σ:L2.St}{H:Hp}{Q:VK}{xs:List α}(e:α->V)(f:α->List Nat)(C:Addr->Hp->Prop)
  (htl:∀R:VK,(∀a H1,C a H1->R (.ref a) H1)->tl σ H R) (hl:∀a H1,C a H1->dX K H1 a (xs.map e)) (hz:xs.length<=sizeLine)
  (hs:∀a H1 D,C a H1->H1 D=none->∀(i:Nat) x H' acc (Nx:Hp->Prop),xs[i]? =some x->aZ H1 H'->H' D=some (.lst acc)->acc.length < sizeLine->(∀H4 q,aZ H' H4->q≠D->H4 q=some (.lst (cT (f x)))->Nx (L2.upd H4 D (.lst (acc++[.ref q]))))->
   g (e x) (jS σ vs) H' λσ2 H2=>jS σ2 vs=jS σ vs/\Zx σ2 H2 λb H3=>if b=true then te σ2 H3 λy H4=>∃acc,H4 D=some (.lst acc)/\acc.length < sizeLine/\Nx (L2.upd H4 D (.lst (acc++[y]))) else Nx H3)
  (hd:∀a H1 D H' qs,C a H1->H1 D=none->aZ H1 H'->H' D=some (.lst (qs.map V.ref))->CW H' qs (xs.map f)->Q (.ref D) H'):Uu (Cc K tl) g Zx te vs σ H Q:=by
 refine htl _ λa H1 c=>⟨a,rfl,⟨_,hl a H1 c⟩,λD hD=> ?_⟩
 refine Qg (xs:=xs.map e) (λi H=>aZ H1 H/\∃qs:List Addr,H D=some (.lst (qs.map V.ref))/\D ∉ qs/\CW H qs ((xs.take i).map f)) ⟨aZ.upd hD,[],aK,by simp,.nil⟩ (λi H _ p=>p.1.seq (hl a H1 c)) (λi x H' hx p=> ?_)
  (λH' ⟨s1,qs,h1,_,h3⟩=>hd a H1 D H' qs c hD s1 h1 (by rw[aA,qR] at h3;exact h3))
 rw[aP] at hx
 obtain⟨z,hz',rfl⟩:=cK.mp hx
 obtain⟨s1,qs,h1,h2,h3⟩:=p
 have ht:xs.take (i+1)=xs.take i++[z]:=by
  rw[jV,hz'];rfl
 have hlen:qs.length=i:=by
  have h4:=Paired.length h3
  have h5:i < xs.length:=(bL.mp hz').1
  rw[aA,iH] at h4
  omega
 have hlt:(qs.map V.ref).length < sizeLine:=by
  have h5:i < xs.length:=(bL.mp hz').1
  rw[aA];omega
 refine hs a H1 D c hD i z H' _ (λH=>aZ H1 H/\∃qs:List Addr,H D=some (.lst (qs.map V.ref))/\D ∉ qs/\CW H qs ((xs.take (i+1)).map f)) hz' s1 h1 hlt λH4 q s4 hqD hq=> ?_
 have up:∀{b:Addr} {o:HO},b≠D->H4 b=some o->L2.upd H4 D (.lst (qs.map V.ref++[.ref q])) b=some o:=λhb h=>by rw[aM hb];exact h
 refine⟨λb o eb=>up (bJ eb hD) (s4 _ _ (s1 _ _ eb)),qs++[q],by rw[aK,cC];rfl,?_,?_⟩
 ·rw[cW,cP]
  rintro(h | h)
  ·exact h2 h
  ·exact hqD h.symm
 ·rw[ht,cC]
  refine Paired.snoc ?_ (up hqD hq)
  exact CW.updD s4 h3 h2
section
variable {P:bS}{w:cY}{K:PySem.W.Frag}{mg:Str->Option aC}{A:Ad}{F:Fd}
theorem VM:bV ["squares","laying"] ["squares","laying"] (defScope JI):=⟨rfl,rfl,rfl,by decide+kernel,rfl,by decide+kernel,by decide+kernel⟩
def FG (K:PySem.W.Frag)(CL C:Addr):Sp:=λvs H Q _=>∃(a p dx aw ar:Addr) (b wd rk:List Nat) (x y d:Int),vs=[.ref a,.ref p]/\uX K CL H a p b x y d wd rk dx aw ar/\(d=0\/d=1)/\Fw x y d wd.length/\
 ∀H' q zs,aZ H H'->H q=none->oG K C H' q b d zs->zs.map (λz=>z.2)=dB x y d wd.length->Q (.ref q) H'
theorem TJ {K:PySem.W.Frag}{CL C:Addr}{H:Hp}{Q:VK}{E:XK}{a p dx aw ar:Addr}{b wd rk:List Nat}{x y d:Int}(L:uX K CL H a p b x y d wd rk dx aw ar)(hd:d=0\/d=1)(hon:Fw x y d wd.length)
  (k:∀H' q zs,aZ H H'->H q=none->oG K C H' q b d zs->zs.map (λz=>z.2)=dB x y d wd.length->Q (.ref q) H'):FG K CL C [.ref a,.ref p] H Q E:=⟨a,p,dx,aw,ar,b,wd,rk,x,y,d,rfl,L,hd,hon,k⟩
theorem WM (T:kR K mg A F):Ok P w K mg 7 A.mR F.mR ["squares","laying"] (FG K A.aW A.aV):=λbase bb=>by
 refine T.mR.F.ok VM (λvs H Q E h=> ?_) (λcdv Ar outer s H vs Q E hr h=> ?_)
 ·obtain⟨a,p,dx,aw,ar,b,wd,rk,x,y,d,rfl,_⟩:=h
  rfl
 ·obtain⟨a,p,dx,aw,ar,b,wd,rk,x,y,d,rfl,L,hd,hon,k⟩:=h
  refine⟨_,(aS (bU (oF T.mY (JV T base bb) hr (aB (pv 0) (aB (bY (pv 1) rfl) (aB (bY (pv 1) rfl) (aB (bY (pv 1) rfl) (aB (eQ eR (by rfl) T.sV PySem.boot_len (aB (bY (pv 1) rfl) aL)) aL)))))))),?_⟩
  simp_arith [↓eY,L.at_,HO.ins.injEq,T.aW.cl,qM T,qL T,qN T,rR T,sQ T,rT,rS,rV,tE,tF,lU,lE]
  refine⟨_,.inl L.l.w,?_⟩
  rw[fX]
  exact FC L.sqs L.ok hd L.n hon λH' q zs s1 hq _ S _ e=>k H' q zs s1 hq S e
theorem Ck (b:List Nat)(x y d:Int)(wd:List Nat)(i:Nat):gZ b x y d wd i=nE b (bQ x y d i).1 (bQ x y d i).2 d (wd.getD i 0):=by
 unfold gZ nE tS vD zI
 dsimp only
 rw[OW]
 generalize nJ b (-d) (-(1 - d)) 15 _ _=bf
 generalize nJ b d (1 - d) 15 _ _=bh
 cases bf.isEmpty&&bh.isEmpty <;> simp
theorem AJ:bV ["squares","laying","place","spot"] ["squares","laying","place"] (defScope DM):=⟨rfl,rfl,rfl,by decide+kernel,rfl,by decide+kernel,by decide+kernel⟩
def AF (K:PySem.W.Frag)(C:Addr):Sp:=λvs H Q _=>∃(a p dx aw ar:Addr) (b wd rk:List Nat) (x y d:Int) (i:Nat),vs=[.ref a,.ref p,.int i]/\uX K C H a p b x y d wd rk dx aw ar/\(d=0\/d=1)/\Fw x y d wd.length/\i < wd.length/\
  ∀H' q,aZ H H'->H q=none->H' q=some (.lst (cT (gZ b x y d wd i)))->Q (.ref q) H'
theorem ML {K:PySem.W.Frag}{C:Addr}{H:Hp}{Q:VK}{E:XK}{a p dx aw ar:Addr}{b wd rk:List Nat}{x y d:Int}{i:Nat}(L:uX K C H a p b x y d wd rk dx aw ar)(hd:d=0\/d=1)(hon:Fw x y d wd.length)(hi:i < wd.length)
  (k:∀H' q,aZ H H'->H q=none->H' q=some (.lst (cT (gZ b x y d wd i)))->Q (.ref q) H'):AF K C [.ref a,.ref p,.int i] H Q E:=⟨a,p,dx,aw,ar,b,wd,rk,x,y,d,i,rfl,L,hd,hon,hi,k⟩
theorem QE (T:kR K mg A F):Ok P w K mg 6 A.kE F.kE ["squares","laying","place"] (AF K A.aW):=λbase bb=>by
 refine T.kE.F.ok AJ (λvs H Q E h=> ?_) (λcdv Ar outer s H vs Q E hr h=> ?_)
 ·obtain⟨a,p,dx,aw,ar,b,wd,rk,x,y,d,i,rfl,_⟩:=h
  rfl
 ·obtain⟨a,p,dx,aw,ar,b,wd,rk,x,y,d,i,rfl,L,hd,hon,hi,k⟩:=h
  refine⟨_,(aO (dJ (i:=3) AJ.nd rfl (cB rfl) (y9 T.Pu T.aV T.nU (NR T base bb) hr (aB (pv 0) (aB (IL (pv 1) T.aW T.iP (oW T base bb) hr (aB (pv 2) aL)) (aB (IL (pv 1) T.aW T.iO (oV T base bb) hr (aB (pv 2) aL)) (aB (bY (pv 1) rfl) aL)))))) (aS (bU (IL (pv 3) T.aV T.fI (tJ T base bb) hr (aB (uM qE (bY (pv 1) rfl) (pv 2) (λ_ _=>rfl)) aL))))),?_⟩
  rw[Ck] at k
  simp_arith [↓eY,L.at_, ↓AQ,HO.ins.injEq,T.aW.cl,qM T,qL T,qN T,rR T,sQ T,rT,rS,rV,tE,tF,lU,lE]
  refine FA L.at_ λH1 s1=> ?_
  have L1:=L.same s1
  simp_arith [↓eY,L1.at_, ↓AQ,HO.ins.injEq,T.aW.cl,qM T,qL T,qN T,rR T,sQ T,rT,rS,rV,tE,tF,lU,lE]
  refine EZ L1.at_ λH2 s2=> ?_
  have L2':=L1.same s2
  simp_arith [↓eY,L2'.at_, ↓AQ,HO.ins.injEq,T.aW.cl,qM T,qL T,qN T,rR T,sQ T,rT,rS,rV,tE,tF,lU,lE]
  intro x0 dx0 nx nd ne
  refine Gu L2'.sqs L.ok hd (hon i hi) nx nd ne λH3 a1 a2 _ _ s3 S=> ?_
  have L3:=L2'.same s3
  simp_arith [↓eY,L3.at_,HO.ins.injEq,T.aW.cl,qM T,qL T,qN T,rR T,sQ T,rT,rS,rV,tE,tF,lU,lE]
  refine⟨_,_,S.at_,DT ..,_,_,_,_,rfl,rfl,L3.l.w,uO (j:=i) rfl (QR hi),yJ S λH4 q s4 hq hq'=> ?_⟩
  exact k _ _ (((s1.trans s2).trans s3).trans s4) ((((s1.trans s2).trans s3)).free hq) hq'
abbrev zD:List Str:=["squares","laying","crossings","place","crossing"]
theorem lG:bV ["squares","laying","crossings","place","crossing"] ["squares","laying"] (defScope pF):=⟨rfl,rfl,rfl,by decide+kernel,rfl,by decide+kernel,by decide+kernel⟩
def yP (K:PySem.W.Frag)(C:Addr):Sp:=λvs H Q _=>∃(a p dx aw ar:Addr) (b wd rk:List Nat) (x y d:Int),vs=[.ref a,.ref p]/\uX K C H a p b x y d wd rk dx aw ar/\(d=0\/d=1)/\Fw x y d wd.length/\
  ∀H' q qs,aZ H H'->H q=none->H' q=some (.lst (qs.map V.ref))->CW H' qs (gG b x y d wd)->Q (.ref q) H'
theorem xC {K:PySem.W.Frag}{C:Addr}{H:Hp}{Q:VK}{E:XK}{a p dx aw ar:Addr}{b wd rk:List Nat}{x y d:Int}(L:uX K C H a p b x y d wd rk dx aw ar)(hd:d=0\/d=1)(hon:Fw x y d wd.length)
  (k:∀H' q qs,aZ H H'->H q=none->H' q=some (.lst (qs.map V.ref))->CW H' qs (gG b x y d wd)->Q (.ref q) H'):yP K C [.ref a,.ref p] H Q E:=⟨a,p,dx,aw,ar,b,wd,rk,x,y,d,rfl,L,hd,hon,k⟩
theorem GA {H:Hp}(p:List Nat->Bool):∀{qs:List Addr} {cs:List (List Nat)},CW H qs cs->CW H ((qs.zip cs).filterMap λz=>if p z.2=true then some z.1 else none) (cs.filter p)
 | _,_,.nil=>.nil
 | _,_, @Paired.cons _ _ _ q c qs cs r t=>by
  rw[dH,dM,nQ]
  cases h:p c
  ·simp only[h]
   exact GA p t
  ·simp only[h]
   exact .cons r (GA p t)
theorem yZ (T:kR K mg A F):Ok P w K mg 7 A.iF F.iF ["squares","laying"] (yP K A.aW):=λbase bb=>by
 refine T.iF.F.ok lG (λvs H Q E h=> ?_) (λcdv Ar outer s H vs Q E hr h=> ?_)
 ·obtain⟨a,p,dx,aw,ar,b,wd,rk,x,y,d,rfl,_⟩:=h
  rfl
 ·obtain⟨a,p,dx,aw,ar,b,wd,rk,x,y,d,rfl,L,hd,hon,k⟩:=h
  refine⟨_,(aO (xK (i:=2) rfl lG.nd rfl rfl (BU rfl rfl rfl rfl) (iY (oF T.jG (sP T base bb) hr (aB (pv 0) (aB (pv 1) aL)))) (fN (N:=zD) (sc:=defScope pF) (own:=[("place",3)]) (by decide+kernel)) (λ_ _ _ _ _=>(dG (i:=3) lG.nd rfl (cB rfl))) (λ_ _ _ _ _=>oE) (λ_ _ _ _ _=>(oF T.kE (QE T base bb) hr (aB (pv 0) (aB (pv 1) (aB (pv 3) aL)))))) (aS (bU (tI rfl lG.nd (iY (pv 2)) (fN (N:=zD) (sc:=defScope pF) (own:=[("crossing",4)]) (by decide+kernel)) (λ_ _ _ _ _=>(dG (i:=4) lG.nd rfl (cB rfl))) (λ_ _ _ _ _=>sI (eB (i8 (K:=K) rfl hr.units) (pv 4) (gJ aL) (eZ _))) (λ_ _ _ _ _=>(pv 4)))))),?_⟩
  simp_arith
  refine lcP (xs:=cE b x y d wd.length) (λi:Nat=>V.int i) (λi=>gZ b x y d wd i) (λq H1=>aZ H H1/\H1 q=some (.lst (cT (cE b x y d wd.length)))) (λR h=> ?_) (λq H1 c=>dX.of c.2) (cV (CA _ _ _ _ _) (KS L.n)) ?_ ?_
  ·simp_arith
   exact pY L λH1 q s1 hq0 hq=>h _ _ ⟨s1,hq⟩
  ·rintro q H1 D ⟨s1,hq⟩ hD i z H' acc Nx hz s2 hacc hlt kn
   have hzn:z < wd.length:=Si (aY hz)
   simp_arith
   refine ML (L.same (s1.trans s2)) hd hon hzn λH3 q3 s3 hq3 hq3'=> ?_
   exact⟨acc,s3 _ _ hacc,hlt,kn H3 q3 s3 (λz=>by rw[z,hacc] at hq3;cases hq3) hq3'⟩
  ·rintro q H1 D H2 qs ⟨s1,hq⟩ hD s2 hD2 hr2
   simp_arith
   have hz2:∀{qs:List Addr} {cs:List (List Nat)},CW H2 qs cs->(qs.zip cs).map (λz=>V.ref z.1)=qs.map V.ref/\∀z∈qs.zip cs,H2 z.1=some (.lst (cT z.2)):=by
    intro qs cs h
    induction h with
    | nil=>exact⟨rfl,λz h=>by simp at h⟩
    | cons r _ ih=>
     refine⟨by rw[dH,aJ,aJ,ih.1],λz hz=> ?_⟩
     rw[dH,bN] at hz
     rcases hz with rfl | hz
     ·exact r
     ·exact ih.2 z hz
   obtain⟨e1,e2⟩:=hz2 hr2
   have e3:=GA (λl=> !l.isEmpty) hr2
   have hlen:=Paired.length hr2
   rw[aA] at hlen
   have hpl:=CA b x y d wd.length
   have hn:=L.n
   refine Ux (xs:=qs.zip ((cE b x y d wd.length).map λi=>gZ b x y d wd i)) (λz=>V.ref z.1) (λz=>if(!z.2.isEmpty)=true then some (V.ref z.1) else none) (Ld H2 D) (λR h=>h _ _ ⟨rfl,rfl⟩) (λa' H' c=>by rw[c.1,c.2,e1];exact dX.of hD2)
    (by rw[sZ,aA,aX];omega) ?_ ?_
   ·rintro _ _ D2 ⟨rfl,rfl⟩ hDn i z H' acc Nx hz t1 t2 t3 k2
    simp_arith [↓rQ]
    refine⟨cA _,λe0 he0=>br (dX.of (by rw[aM (bJ (t1 _ _ (e2 z (aY hz))) he0)];exact t1 _ _ (e2 z (aY hz)))) aK (Kh ?_)⟩
    split
    ·rename_i h1
     exact rZ.yes (by simpa[h1] using k2) t2 t3 (aZ.upd he0)
    ·rename_i h1
     exact rZ.no (by simpa[h1] using k2) (aZ.upd he0)
   ·rintro _ _ D2 H3 ⟨rfl,rfl⟩ hDn s3 hD3
    refine k H3 D2 ((qs.zip ((cE b x y d wd.length).map λi=>gZ b x y d wd i)).filterMap λz=>if(!z.2.isEmpty)=true then some z.1 else none) ((s1.trans s2).trans s3) ((s1.trans s2).free hDn) ?_ (e3.same s3)
    rw[hD3]
    congr 2
    rw[List.map_filterMap]
    congr 1
    funext z
    split <;> rfl
theorem AK:bV ["laying","place"] ["laying"] (defScope DN):=⟨rfl,rfl,rfl,by decide+kernel,rfl,by decide+kernel,by decide+kernel⟩
def AH (K:PySem.W.Frag)(C:Addr):Sp:=FP λvs H r=>∃(p dx aw ar:Addr) (wd rk:List Nat) (x y d:Int),vs=[.ref p]/\Ur K C H p x y d wd rk dx aw ar/\wd.length<=15/\r=.bl (zU x y d wd.length)
theorem MM {K:PySem.W.Frag}{C:Addr}{H:Hp}{Q:VK}{E:XK}{p dx aw ar:Addr}{wd rk:List Nat}{x y d:Int}(L:Ur K C H p x y d wd rk dx aw ar)(hn:wd.length<=15)(k:∀H',aZ H H'->Q (.bl (zU x y d wd.length)) H'):AH K C [.ref p] H Q E:=⟨_,⟨p,dx,aw,ar,wd,rk,x,y,d,rfl,L,hn,rfl⟩,k⟩
theorem QF (T:kR K mg A F):Ok P w K mg 2 A.kF F.kF ["laying"] (AH K A.aW):=λbase bb=>by
 refine T.kF.F.ok AK (λvs H Q E h=> ?_) (λcdv Ar outer s H vs Q E hr h=> ?_)
 ·obtain⟨r,⟨p,dx,aw,ar,wd,rk,x,y,d,rfl,_⟩,_⟩:=h
  rfl
 ·obtain⟨r,⟨p,dx,aw,ar,wd,rk,x,y,d,rfl,L,hn,rfl⟩,k⟩:=h
  refine⟨_,(aO (tW eP rfl (tX rfl T.wN (aB (eQ eR (by rfl) T.sV PySem.boot_len (aB (bY (pv 0) rfl) aL)) aL)) (dG (i:=1) AK.nd rfl (cB rfl)) (aS (gC (PW.pt (Mf (eB sO (IL (pv 0) T.aW T.iP (oW T base bb) hr (aB (pv 1) aL)) (fF rfl T.BG) (eZ _)) (Ea (eB sO (IL (pv 0) T.aW T.iO (oV T base bb) hr (aB (pv 1) aL)) (fF rfl T.BG) (eZ _))))) (aS (bU yX)) dN))) (aS (bU yX))),?_⟩
  simp_arith
  refine V0 (n:=wd.length) (λR h=> ?_) (KS hn) (λi σ' H'=>∃v,σ'=[some (.ref p),v]/\aZ H H'/\((bA i).any λi=>decide ((bQ x y d i).1=7)&&decide ((bQ x y d i).2=7))=false) ⟨none,rfl,aZ.refl H,rfl⟩ ?_ ?_
  ·simp_arith [↓eY,L.at_,HO.ins.injEq,T.aW.cl,qM T,qL T,qN T,rR T,sQ T,rT,rS,rV,tE,tF,lU,lE]
   exact⟨_,.inl L.w,by rw[fX];exact h⟩
  ·rintro i σ' H' hi ⟨v,rfl,s1,hany⟩
   have L1:=L.same s1
   simp_arith [↓eY,L1.at_,HO.ins.injEq,T.aW.cl,qM T,qL T,qN T,rR T,sQ T,rT,rS,rV,tE,tF,lU,lE]
   have ha:((bA (i+1)).any λ(i:Nat)=>decide ((bQ x y d i).1=7)&&decide ((bQ x y d i).2=7))=(decide ((bQ x y d i).1=7)&&decide ((bQ x y d i).2=7)):=by
    rw[pC,List.any_append,hany]
    simp
   refine FA L1.at_ λH2 s2=>⟨rfl,?_⟩
   split
   ·rename_i h1
    have h1':=V.int.inj h1
    have L2':=L1.same s2
    refine⟨_,_,L2'.at_,lE ..,EZ L2'.at_ λH3 s3=>⟨rfl,?_⟩⟩
    split
    ·rename_i h2
     have h2':=V.int.inj h2
     have k0:=k _ ((s1.trans s2).trans s3)
     have e:zU x y d wd.length=true:=by
      unfold zU
      exact jO.mpr ⟨i,bM.mpr hi,by simp[h1',h2']⟩
     rw[e] at k0
     exact k0
    ·rename_i h2
     have h2':¬(bQ x y d i).2=7:=λz=>h2 (by rw[z])
     refine⟨(s1.trans s2).trans s3,?_⟩
     rw[ha];simp[h2']
   ·rename_i h1
    have h1':¬(bQ x y d i).1=7:=λz=>h1 (by rw[z])
    refine⟨s1.trans s2,?_⟩
    rw[ha];simp[h1']
  ·rintro σ' H' ⟨v,rfl,s1,hany⟩
   have k0:=k _ s1
   simp_arith
   unfold zU at k0
   rw[hany] at k0
   exact k0
theorem Mc:bV ["squares","laying"] ["squares","laying"] (defScope Bb):=⟨rfl,rfl,rfl,by decide+kernel,rfl,by decide+kernel,by decide+kernel⟩
def VC (K:PySem.W.Frag)(C:Addr):Sp:=FP λvs H r=>∃(a p dx aw ar:Addr) (b wd rk:List Nat) (x y d:Int),vs=[.ref a,.ref p]/\uX K C H a p b x y d wd rk dx aw ar/\(d=0\/d=1)/\Fw x y d wd.length/\r=.bl (nY b x y d wd)
theorem Gr {K:PySem.W.Frag}{C:Addr}{H:Hp}{Q:VK}{E:XK}{a p dx aw ar:Addr}{b wd rk:List Nat}{x y d:Int}(L:uX K C H a p b x y d wd rk dx aw ar)(hd:d=0\/d=1)(hon:Fw x y d wd.length)(k:∀H',aZ H H'->Q (.bl (nY b x y d wd)) H'):VC K C [.ref a,.ref p] H Q E:=⟨_,⟨a,p,dx,aw,ar,b,wd,rk,x,y,d,rfl,L,hd,hon,rfl⟩,k⟩
theorem Mp (T:kR K mg A F):Ok P w K mg 8 A.yM F.yM ["squares","laying"] (VC K A.aW):=λbase bb=>by
 refine T.yM.F.ok Mc (λvs H Q E h=> ?_) (λcdv Ar outer s H vs Q E hr h=> ?_)
 ·obtain⟨r,⟨a,p,dx,aw,ar,b,wd,rk,x,y,d,rfl,_⟩,_⟩:=h
  rfl
 ·obtain⟨r,⟨a,p,dx,aw,ar,b,wd,rk,x,y,d,rfl,L,hd,hon,rfl⟩,k⟩:=h
  refine⟨_,(aO (gC (gI (oF T.pI (NQ T base bb) hr (aB (pv 0) aL))) (aS (bU (oF T.kF (QF T base bb) hr (aB (pv 1) aL)))) dN) (aO (gC (eB WK (eQ eR (by rfl) T.sV PySem.boot_len (aB (oF T.jG (sP T base bb) hr (aB (pv 0) (aB (pv 1) aL))) aL)) (eQ eR (by rfl) T.sV PySem.boot_len (aB (bY (pv 1) rfl) aL)) (eZ _)) (aS (bU yX)) dN) (aS (bU (uE (Ef hr.units) (oF T.iF (yZ T base bb) hr (aB (pv 0) (aB (pv 1) aL))) (gJ aL) (eZ _)))))),?_⟩
  refine XI (b.all λc=>c==0) (λR h=> ?_) (λH1 s1 c=> ?_) (λH1 s1 c=> ?_)
  ·simp_arith
   exact JC L.sqs L.ok λH1 s1=>h _ s1
  ·simp_arith
   refine MM (L.same s1).l L.n λH2 s2=> ?_
   have k0:=k _ (s1.trans s2)
   unfold nY at k0
   rw[if_pos c] at k0
   exact k0
  ·have L1:=L.same s1
   refine XI (decide ((cE b x y d wd.length).length < wd.length)) (λR h=> ?_) (λH2 s2 c2=> ?_) (λH2 s2 c2=> ?_)
   ·simp_arith
    refine pY L1 λH2 q s2 _ hq=> ?_
    have L2':=L1.same s2
    simp_arith [↓eY,L2'.at_,HO.ins.injEq,T.aW.cl,qM T,qL T,qN T,rR T,sQ T,rT,rS,rV,tE,tF,lU,lE]
    refine⟨_,.inl (dX.of hq),_,.inl L2'.l.w,?_⟩
    rw[fX,fX]
    have e:decide (((cE b x y d wd.length).length:Int) < (wd.length:Int))=decide ((cE b x y d wd.length).length < wd.length):=by
     rw[cZ];simp
    rw[e]
    exact h _ s2
   ·simp_arith
    have k0:=k _ (s1.trans s2)
    unfold nY at k0
    rw[if_neg (by rw[c];exact bP),c2,YW] at k0
    exact k0
   ·simp_arith [↓rQ]
    refine xC (L1.same s2) hd hon λH3 q qs s3 _ hq hr3=> ?_
    simp_arith [↓rQ]
    refine⟨cA _,λe0 he0=>E8 (dX.of (by rw[aM (bJ hq he0)];exact hq)) (hr3.same (aZ.upd he0)) aK ?_⟩
    have k0:=k _ (((s1.trans s2).trans s3).trans (aZ.upd (o:=.lst []) he0))
    unfold nY at k0
    rw[if_neg (by rw[c];exact bP),c2,Om] at k0
    exact k0
end
abbrev fU:=Int×Int
def lR (b:List Nat)(c:fU):Bool:=aH b c.1 c.2==0
def Gd (c:fU):Int:=(fK c.1 c.2:Nat)
def Xi (c:fU):Int:=(cG c.1 c.2:Nat)
def oZ (b:List Nat)(cs:List fU):Int:=cs.foldl (λf c=>if lR b c=true then f * Gd c else f) 1
def Kb (b:List Nat)(cs:List fU):Int:=if(cs.filter (lR b)).length=7 then 50 else 0
def Uv (b:List Nat)(z:fU×Nat):Int:=if lR b z.1=true then(cH z.2:Nat) * Xi z.1 else(cH z.2:Nat)
def Uy (b:List Nat)(d:Int)(z:fU×Nat):Int:=if lR b z.1=true then(if tS b z.1.1 z.1.2 d=true then(dA (vD b z.1.1 z.1.2 d)+dA (zI b z.1.1 z.1.2 d)+(cH z.2:Nat) * Xi z.1) * Gd z.1 else 0) else 0
def jY (b:List Nat)(d:Int)(cs:List fU)(wd:List Nat):Int:=((cs.zip wd).map (Uv b)).sum * oZ b cs+((cs.zip wd).map (Uy b d)).sum+Kb b cs
theorem Gz {α:Type}(f:α->Int){l:List α}{i:Nat}{z:α}(h:l[i]? =some z):((l.take (i+1)).map f).sum=((l.take i).map f).sum+f z:=by
 rw[jV,h,cC,UE]
 simp
theorem Jo (b:List Nat):∀(cs:List fU) (f:Int),0<=f->0<=cs.foldl (λf c=>if lR b c=true then f * Gd c else f) f/\cs.foldl (λf c=>if lR b c=true then f * Gd c else f) f<=f * 3 ^ cs.length
 | [],f,h=>⟨h,by simp⟩
 | c::cs,f,h=>by
  have hw:=Oo c.1 c.2
  have hf:0<=(if lR b c=true then f * Gd c else f)/\(if lR b c=true then f * Gd c else f)<=f * 3:=by
   split
   ·exact⟨BO h (by unfold Gd;omega),Int.mul_le_mul_of_nonneg_left (by unfold Gd;omega) h⟩
   ·exact⟨h,by omega⟩
  obtain⟨q1,q2⟩:=Jo b cs _ hf.1
  refine⟨q1,Int.le_trans q2 ?_⟩
  rw[cM,Int.pow_succ,ZA (3 ^ cs.length) 3, <-xX]
  exact Int.mul_le_mul_of_nonneg_right hf.2 (Int.le_of_lt (Int.pow_pos (by decide)))
theorem D8 {n:Nat}(h:n<=15):(3:Int) ^ n<=14348907:=by
 have:=Nat.pow_le_pow_right (n:=3) (by decide) h
 have e:((3 ^ n:Nat):Int)=(3:Int) ^ n:=Int.natCast_pow 3 n
 omega
theorem Zr {zs:List (Addr×fU)}{i:Nat}{z:Addr×fU}(h:zs[i]? =some z):(zs.map λz=>z.2)[i]? =some z.2:=by rw[aP,h];rfl
section
variable {P:bS}{w:cY}{K:PySem.W.Frag}{mg:Str->Option aC}{A:Ad}{F:Fd}
theorem pE:bV ["spots","fold","spot"] ["spots"] (defScope DK):=⟨rfl,rfl,rfl,by decide+kernel,rfl,by decide+kernel,by decide+kernel⟩
def AE (K:PySem.W.Frag)(C:Addr):Sp:=FP λvs H r=>∃(a:Addr) (b:List Nat) (d:Int) (zs:List (Addr×fU)),vs=[.ref a]/\oG K C H a b d zs/\zs.length<=15/\r=.int (oZ b (zs.map λz=>z.2))
theorem yI {K:PySem.W.Frag}{C:Addr}{H:Hp}{Q:VK}{E:XK}{a:Addr}{b:List Nat}{d:Int}{zs:List (Addr×fU)}(S:oG K C H a b d zs)(hn:zs.length<=15)(k:∀H',aZ H H'->Q (.int (oZ b (zs.map λz=>z.2))) H'):AE K C [.ref a] H Q E:=⟨_,⟨a,b,d,zs,rfl,S,hn,rfl⟩,k⟩
theorem AU (T:kR K mg A F):Ok P w K mg 1 A.iZ F.iZ ["spots"] (AE K A.aV):=λbase bb=>by
 refine T.iZ.F.ok pE (λvs H Q E h=> ?_) (λcdv Ar outer s H vs Q E hr h=> ?_)
 ·obtain⟨r,⟨a,b,d,zs,rfl,_⟩,_⟩:=h
  rfl
 ·obtain⟨r,⟨a,b,d,zs,rfl,S,hn,rfl⟩,k⟩:=h
  refine⟨_,(aO (dJ (i:=1) pE.nd rfl (cB rfl) dS) (aO (tW eP rfl (iY (pv 0)) (dG (i:=2) pE.nd rfl (cB rfl)) (aS (gC (gI (bY (pv 2) rfl)) (aS (dJ (i:=1) pE.nd rfl (cB rfl) (eL vH (pv 1) (bY (pv 2) rfl)))) dN))) (aS (bU (pv 1))))),?_⟩
  simp_arith
  refine K0 (xs:=zs) (λz=>V.ref z.1) (Ld H a) (λR h=>h _ _ ⟨rfl,rfl⟩)
   (λq i σ' H'=>q=a/\H'=H/\∃v,σ'=[some (.ref a),some (.int (oZ b ((zs.take i).map λz=>z.2))),v]) ?_ ?_ ?_ ?_
  ·rintro _ _ ⟨rfl,rfl⟩
   exact⟨rfl,rfl,none,rfl⟩
  ·rintro q i σ' H' ⟨rfl,rfl,_⟩
   exact S.at_
  ·rintro q i z σ' H' hz ⟨rfl,rfl,v,rfl⟩
   obtain⟨dx,a1,a2,sp⟩:=S.each z (aY hz)
   have hst:oZ b ((zs.take (i+1)).map λz=>z.2)=if lR b z.2=true then oZ b ((zs.take i).map λz=>z.2) * Gd z.2 else oZ b ((zs.take i).map λz=>z.2):=by
    unfold oZ
    rw[jV,hz,cC,B3]
    rfl
   simp_arith [↓eY,sp.at_,HO.ins.injEq,T.aV.cl,(mF T).1,(mF T).2.1,(mF T).2.2.1,(mF T).2.2.2.1,(mF T).2.2.2.2.1,(mF T).2.2.2.2.2.1,(mF T).2.2.2.2.2.2.1,(mF T).2.2.2.2.2.2.2,KA,GM,GO,DU,GN,JZ,KB,JY,DT]
   have hw:=Oo z.2.1 z.2.2
   split
   ·rename_i h
    rw[if_pos (show lR b z.2=true from h)] at hst
    refine⟨.inr ⟨by omega,by omega⟩,?_⟩
    rw[hst]
    exact⟨rfl,_,rfl⟩
   ·rename_i h
    rw[if_neg (show¬lR b z.2=true from h)] at hst
    rw[hst]
    exact⟨rfl,_,rfl⟩
  ·rintro q σ' H' ⟨rfl,rfl,v,rfl⟩
   simp_arith
   rw[qR]
   exact k _ (aZ.refl _)
abbrev Fx:List Str:=["spots","laid","spot"]
theorem wF:bV ["spots","laid","spot"] ["spots"] (defScope FW):=⟨rfl,rfl,rfl,by decide+kernel,rfl,by decide+kernel,by decide+kernel⟩
def MU (K:PySem.W.Frag)(C:Addr):Sp:=FP λvs H r=>∃(a:Addr) (b:List Nat) (d:Int) (zs:List (Addr×fU)),vs=[.ref a]/\oG K C H a b d zs/\zs.length<=15/\r=.int (Kb b (zs.map λz=>z.2))
theorem ZE {K:PySem.W.Frag}{C:Addr}{H:Hp}{Q:VK}{E:XK}{a:Addr}{b:List Nat}{d:Int}{zs:List (Addr×fU)}(S:oG K C H a b d zs)(hn:zs.length<=15)(k:∀H',aZ H H'->Q (.int (Kb b (zs.map λz=>z.2))) H'):MU K C [.ref a] H Q E:=⟨_,⟨a,b,d,zs,rfl,S,hn,rfl⟩,k⟩
theorem El (T:kR K mg A F):Ok P w K mg 1 A.rG F.rG ["spots"] (MU K A.aV):=λbase bb=>by
 refine T.rG.F.ok wF (λvs H Q E h=> ?_) (λcdv Ar outer s H vs Q E hr h=> ?_)
 ·obtain⟨r,⟨a,b,d,zs,rfl,_⟩,_⟩:=h
  rfl
 ·obtain⟨r,⟨a,b,d,zs,rfl,S,hn,rfl⟩,k⟩:=h
  refine⟨_,(aO (dJ (i:=1) wF.nd rfl (cB rfl) (eQ eR (by rfl) T.sV PySem.boot_len (aB (tI rfl wF.nd (iY (pv 0)) (fN (N:=Fx) (sc:=defScope FW) (own:=[("spot",2)]) (by decide+kernel)) (λ_ _ _ _ _=>(dG (i:=2) wF.nd rfl (cB rfl))) (λ_ _ _ _ _=>sI (gI (sM (K:=K) rfl (pv 2) rfl))) (λ_ _ _ _ _=>(pv 2))) aL))) (aS (bU (kP (eB sO (pv 1) (fF rfl T.GY) (eZ _)) (fF rfl T.QZ) dS)))),?_⟩
  simp_arith
  refine Ux (xs:=zs) (λz=>V.ref z.1) (λz=>if lR b z.2=true then some (V.ref z.1) else none) (Ld H a) (λR h=>h _ _ ⟨rfl,rfl⟩) (λa' H1 c=>by rw[c.1,c.2];exact S.at_) (KS hn) ?_ ?_
  ·rintro _ _ D ⟨rfl,rfl⟩ hD i z H' acc Nx hz e1 e2 e3 k2
   obtain⟨dx,a1,a2,sp⟩:=S.each z (aY hz)
   have sp':=sp.same e1
   simp_arith [↓eY,sp'.at_,HO.ins.injEq,T.aV.cl,(mF T).1,(mF T).2.1,(mF T).2.2.1,(mF T).2.2.2.1,(mF T).2.2.2.2.1,(mF T).2.2.2.2.2.1,(mF T).2.2.2.2.2.2.1,(mF T).2.2.2.2.2.2.2,KA,GM,GO,DU,GN,JZ,KB,JY,DT]
   split
   ·rename_i h
    rw[if_pos (show lR b z.2=true from h)] at k2
    exact rZ.yes k2 e2 e3 (aZ.refl _)
   ·rename_i h
    rw[if_neg (show¬lR b z.2=true from h)] at k2
    exact rZ.no k2 (aZ.refl _)
  ·rintro _ _ D H' ⟨rfl,rfl⟩ hD e1 e2
   refine⟨D,rfl,_,.inl (dX.of e2),?_⟩
   have hlen:(zs.filterMap λz=>if lR b z.2=true then some (V.ref z.1) else none).length=((zs.map λz=>z.2).filter (lR b)).length:=by
    rw[xA,aA,kM,aA];rfl
   rw[hlen]
   have k0:=k _ e1
   unfold Kb at k0
   simp_arith
   split
   ·rename_i h
    have h':((zs.map λz=>z.2).filter (lR b)).length=7:=by omega
    rw[if_pos h'] at k0
    exact k0
   ·rename_i h
    have h':¬((zs.map λz=>z.2).filter (lR b)).length=7:=by omega
    rw[if_neg h'] at k0
    exact k0
theorem gE:bV ["spots","word","total","crossings","spot","letter","points"] ["spots","word"] (defScope DO):=⟨rfl,rfl,rfl,by decide+kernel,rfl,by decide+kernel,by decide+kernel⟩
def AI (K:PySem.W.Frag)(C:Addr):Sp:=FP λvs H r=>∃(a aw:Addr) (b wd:List Nat) (d:Int) (zs:List (Addr×fU)),vs=[.ref a,.ref aw]/\oG K C H a b d zs/\dX K H aw (cT wd)/\zs.length=wd.length/\wd.length<=15/\(∀c∈wd,bI c=true)/\r=.int (jY b d (zs.map λz=>z.2) wd)
theorem yK {K:PySem.W.Frag}{C:Addr}{H:Hp}{Q:VK}{E:XK}{a aw:Addr}{b wd:List Nat}{d:Int}{zs:List (Addr×fU)}(S:oG K C H a b d zs)(hw:dX K H aw (cT wd))(hl:zs.length=wd.length)(hn:wd.length<=15)(hc:∀c∈wd,bI c=true)(k:∀H',aZ H H'->Q (.int (jY b d (zs.map λz=>z.2) wd)) H'):AI K C [.ref a,.ref aw] H Q E:=⟨_,⟨a,aw,b,wd,d,zs,rfl,S,hw,hl,hn,hc,rfl⟩,k⟩
theorem AW (T:kR K mg A F):Ok P w K mg 3 A.jB F.jB ["spots","word"] (AI K A.aV):=λbase bb=>by
 refine T.jB.F.ok gE (λvs H Q E h=> ?_) (λcdv Ar outer s H vs Q E hr h=> ?_)
 ·obtain⟨r,⟨a,aw,b,wd,d,zs,rfl,_⟩,_⟩:=h
  rfl
 ·obtain⟨r,⟨a,aw,b,wd,d,zs,rfl,S,hw,hl,hn,hc,rfl⟩,k⟩:=h
  refine⟨_,(aO (dJ (i:=2) gE.nd rfl (cB rfl) dS) (aO (dJ (i:=3) gE.nd rfl (cB rfl) dS) (aO (tW eP rfl (E2 rfl T.A0 (aB (pv 0) (aB (pv 1) aL))) (WG (n:=2) rfl (iS (dG (i:=4) gE.nd rfl (cB rfl)) (iS (dG (i:=5) gE.nd rfl (cB rfl)) wG))) (aO (dJ (i:=6) gE.nd rfl (cB rfl) (oF T.pG (NP T base bb) hr (aB (pv 5) aL))) (aO (gC (gI (bY (pv 4) rfl)) (aO (dJ (i:=6) gE.nd rfl (cB rfl) (eL vH (pv 6) (bY (pv 4) rfl))) (aS (gC (gI (bY (pv 4) rfl)) (aS (dJ (i:=3) gE.nd rfl (cB rfl) (eL jR (pv 3) (eL vH (eL jR (bY (pv 4) rfl) (pv 6)) (bY (pv 4) rfl))))) dN))) dN) (aS (dJ (i:=2) gE.nd rfl (cB rfl) (eL jR (pv 2) (pv 6))))))) (aS (bU (eL jR (eL jR (eL vH (pv 2) (oF T.iZ (AU T base bb) hr (aB (pv 0) aL))) (pv 3)) (oF T.rG (El T base bb) hr (aB (pv 0) aL)))))))),?_⟩
  simp_arith
  refine cf (xs:=zs) (zs:=wd) (λz=>V.ref z.1) (λc:Nat=>V.int c) a aw (λR h=>h)
   (λi σ' H'=>aZ H H'/\∃v4 v5 v6,σ'=[some (.ref a),some (.ref aw),some (.int (((((zs.map λz=>z.2).zip wd).take i).map (Uv b)).sum)),some (.int (((((zs.map λz=>z.2).zip wd).take i).map (Uy b d)).sum)),v4,v5,v6]) ⟨aZ.refl H,none,none,none,rfl⟩ hl (λi σ' H' p=>⟨p.1.seq S.at_,p.1.seq hw⟩) ?_ ?_
  ·rintro i z c σ' H' T' hz hcw ⟨s1,v4,v5,v6,rfl⟩ hT
   have hcl:=hc c (aY hcw)
   have hzc:((zs.map λz=>z.2).zip wd)[i]? =some (z.2,c):=mB.mpr ⟨Zr hz,hcw⟩
   rw[Gz (Uv b) hzc,Gz (Uy b d) hzc]
   refine OF aK ?_
   have s2:aZ H' (L2.upd H' T' (.tup [.ref z.1,.int c])):=aZ.upd hT
   obtain⟨dx,a1,a2,sp⟩:=S.each z (aY hz)
   simp_arith
   refine JB (XA hcl) λH3 s3=> ?_
   rw[Bf hcl]
   have s13:=(s1.trans s2).trans s3
   have sp3:=sp.same s13
   simp_arith [↓eY,sp3.at_,HO.ins.injEq,T.aV.cl,(mF T).1,(mF T).2.1,(mF T).2.2.1,(mF T).2.2.2.1,(mF T).2.2.2.2.1,(mF T).2.2.2.2.2.1,(mF T).2.2.2.2.2.2.1,(mF T).2.2.2.2.2.2.2,KA,GM,GO,DU,GN,JZ,KB,JY,DT]
   have hlf:=Xh z.2.1 z.2.2
   have hwf:=Oo z.2.1 z.2.2
   unfold Uv Uy lR Xi Gd
   split
   ·rename_i h
    refine⟨.inr ⟨by omega,by omega⟩,?_⟩
    split
    ·rename_i h2
     exact⟨.inr ⟨by omega,by omega⟩,s13,rfl,rfl,_,rfl⟩
    ·rename_i h2
     exact⟨s13,rfl,by rw[Int.add_zero],_,rfl⟩
   ·rename_i h
    exact⟨s13,rfl,by rw[Int.add_zero],_,rfl⟩
  ·rintro σ' H' ⟨s1,v4,v5,v6,rfl⟩
   simp_arith
   have hzl:((zs.map λz=>z.2).zip wd).length=zs.length:=by rw[sZ,aA];omega
   have ht:((zs.map λz=>z.2).zip wd).take zs.length=(zs.map λz=>z.2).zip wd:=gM (by omega)
   rw[ht]
   have hf:=Jo b (zs.map λz=>z.2) 1 (by decide)
   have hp:=D8 (n:=(zs.map λz=>z.2).length) (by rw[aA];omega)
   rw[PH] at hf
   refine yI (S.same s1) (by omega) λH2 s2=>⟨.inr ⟨?_,?_⟩,?_⟩
   ·unfold oZ;omega
   ·unfold oZ;omega
   ·exact ZE (S.same (s1.trans s2)) (by omega) λH3 s3=>k _ ((s1.trans s2).trans s3)
end
section
variable (b:List Nat)(x y d:Int)(wd:List Nat)
theorem Rr:(dB x y d wd.length).zip wd=(bA wd.length).map λ(i:Nat)=>(bQ x y d i,wd.getD i 0):=by
 apply EB
 intro i
 by_cases h:i < wd.length
 ·rw[aP,iU h]
  refine mB.mpr ⟨?_,?_⟩
  ·unfold dB
   rw[aP,iU h];rfl
  ·show wd[i]? =some (wd.getD i 0)
   rw[aF,aE h];rfl
 ·rw[eD (by rw[sZ];omega),eD (by rw[aA,cR];omega)]
theorem WC (l m:List Nat):dA (l++m)=dA l+dA m:=by
 unfold dA
 rw[cC,UE]
theorem count_eq (hd:d=0\/d=1):jY b d (dB x y d wd.length) wd=Fm b x y d wd:=by
 unfold jY Fm
 rw[Rr,bR,bR]
 have e1:((bA wd.length).map (Uv b ∘ λ(i:Nat)=>(bQ x y d i,wd.getD i 0))).sum=Ym x y d wd (cE b x y d wd.length):=by
  unfold Ym cE
  have z:=UZ (λi=>((cH (wd.getD i 0):Nat):Int)) (λi=>Xi (bQ x y d i)) (λi=>under b x y d i==0) (bA wd.length)
  have e0:((bA wd.length).map λi=>((cH (wd.getD i 0):Nat):Int)).sum=dA wd:=by
   unfold dA
   rw[Bv (λc=>((cH c:Nat):Int)) wd]
  rw[e0] at z
  rw[QQ]
  refine Eq.trans ?_ z
  congr 1
  apply dD
  intro i _
  show Uv b (bQ x y d i,wd.getD i 0)=_
  unfold Uv
  show(if lR b (bQ x y d i)=true then _ else _)=_
  by_cases h:(under b x y d i==0)=true
  ·rw[if_pos (show lR b (bQ x y d i)=true from h),if_pos h]
  ·rw[if_neg (show¬lR b (bQ x y d i)=true from h),if_neg h,Zp]
 have e2:oZ b (dB x y d wd.length)=Yn x y d (cE b x y d wd.length):=by
  unfold oZ Yn dB cE
  rw[X4,List.foldl_filter]
  rfl
 have e3:((bA wd.length).map (Uy b d ∘ λ(i:Nat)=>(bQ x y d i,wd.getD i 0))).sum=((cE b x y d wd.length).map λi=>CQ b x y d wd i).sum:=by
  unfold cE
  generalize bA wd.length=is
  induction is with
  | nil=>rfl
  | cons i is ih=>
   rw[aJ,dW,nQ,ih]
   have hcr:Uy b d (bQ x y d i,wd.getD i 0)=if(under b x y d i==0)=true then CQ b x y d wd i else 0:=by
    unfold Uy CQ
    show(if lR b (bQ x y d i)=true then _ else _)=_
    by_cases h:(under b x y d i==0)=true
    ·rw[if_pos (show lR b (bQ x y d i)=true from h),if_pos h,Ck]
     unfold nE
     by_cases h2:tS b (bQ x y d i).1 (bQ x y d i).2 d=true
     ·rw[if_pos h2,if_pos h2]
      have hne:¬(vD b (bQ x y d i).1 (bQ x y d i).2 d++[wd.getD i 0]++zI b (bQ x y d i).1 (bQ x y d i).2 d).isEmpty=true:=by simp
      rw[if_neg hne,WC,WC]
      unfold Cd C0 Xi Gd
      have e:dA [wd.getD i 0]=((cH (wd.getD i 0):Nat):Int):=by simp[dA]
      rw[e]
      show _ * _=_ * _
      congr 1
      dsimp only
      rw[PF,PH,ZA ((cH (wd.getD i 0):Nat):Int)]
      omega
     ·rw[if_neg h2,if_neg h2]
      rfl
    ·rw[if_neg (show¬lR b (bQ x y d i)=true from h),if_neg h]
   show Uy b d (bQ x y d i,wd.getD i 0)+_=_
   rw[hcr]
   by_cases h:(under b x y d i==0)=true
   ·rw[if_pos h,if_pos h,aJ,dW]
   ·rw[if_neg h,if_neg h,Int.zero_add]
 have e4:Kb b (dB x y d wd.length)=if(cE b x y d wd.length).length=7 then 50 else 0:=by
  unfold Kb dB cE
  rw[kM,aA]
  rfl
 rw[e1,e2,e3,e4]
end
section
variable {prog:bS}{w:cY}{A:dZ}{E:aC->aI->Prop}{s:aI}
theorem Mv (knd:HeapKind prog w (List mX))(d:Addr)(hd:(d==sysModules)=false):MeetsIn prog w (Builtin.«dict.__len__» ⟨[.ref d],[]⟩) (λA R s=>∃xs,s.heap.DictOfH knd d xs/\R (.ok (.ret (.int xs.length s.toks))) { s with toks:=s.toks+1 }):=
 .of_wp λA R s ⟨xs,⟨o,es,ep,h1,h2,h3,h4,_⟩,h⟩=>by
  show wpAny _ _ (dictSize d >>= _) _ _ s
  unfold dictSize
  refine aD (aD (IW h1 h3 (bC ?_)))
  show wpAny _ _ (Builtin.Dict.pendingCount d >>= _) _ _ s
  refine aD (wpAny_pendingCount_other hd ?_)
  have hs:es.size=xs.length:=by
   have:=congrArg iI h4
   simpa using this
  show wpAny _ _ (mkInt _ >>= _) _ _ s
  refine aD (wpAny_mkInt (bC ⟨_,rfl,?_⟩))
  simpa[hs] using h
theorem Aa {knd:HeapKind prog w (List mX)}{d:Addr}{xs:List (List mX×Addr×aC)}{Q:aC->aI->Prop}(hd:(d==sysModules)=false)(hm:s.heap.DictOfH knd d xs)(hfit:(xs.length:Int) < 2 ^ 63)
  (h:Q (.int xs.length (s.toks+1)) { s with toks:=s.toks+1+1 }):wpAny (model prog w) A (call (.builtin "len") [.ref d]) Q E s:=by
 refine Calls.call_function_entry kind_len plain_len entry_len (args_len1 _) ?_
 unfold Builtin.«len»
 refine aD (m:=oneArg "len" _) (bC ?_)
 refine aD (m:=callSpecial? (.ref d) (hU "__len__")) (oN (name:=hU "__len__") hm.typeIs ee
  (call_meetsIn ee hm.typeIs F.entry_dict_len (F.args_dict_len_1 _) (Mv knd d hd) ⟨xs,hm,?_⟩))
 show wpAny _ _ _ _ _ { s with toks:=s.toks+1 }
 refine aD (lS (bC ?_))
 refine aD (vR ?_)
 show wpAny _ _ (if((xs.length:Nat):Int) < 0 then _ else _) _ _ _
 rw[if_neg (by omega)]
 show wpAny _ _ (if((xs.length:Nat):Int) >= 2 ^ 63 then _ else _) _ _ _
 rw[if_neg (by omega)]
 exact aD (wpAny_mkInt (bC ⟨_,rfl,h⟩))
end
theorem Nk {X:Cx}:ED X (.builtin "len") (λxs H Q=>∃a kvs,xs=[V.ref a]/\H a=some (.dT kvs)/\Q (.int kvs.length) H):=by
 intro pins s σ H xs us Q I r h
 obtain⟨a,kvs,rfl,ha,q⟩:=h
 rw[eG.ref1 r]
 obtain⟨z,hd,xs,rel,dd⟩:=z9 I.hok ha
 have hl:kvs.length=xs.length:=Paired.length rel
 have hs:sizeLine=16777216:=aX
 refine Aa hd dd (by omega) ?_
 rw[<-hl]
 exact⟨.int kvs.length,H,I.tok _,⟨_,rfl⟩,q⟩
def XM (dw sq:Addr):List (Str×V):=[("words",.ref dw),("squares",.ref sq)]
theorem GQ (dw sq:Addr):(XM dw sq).lookup ("words":Str)=some (.ref dw):=rfl
theorem GR (dw sq:Addr):(XM dw sq).lookup ("squares":Str)=some (.ref sq):=rfl
def QP (w:List Nat):List mX:=w.map λ(c:Nat)=>eI (c:Int)
def mJ (ws:List (List Nat)):List (List mX×V):=ws.reverse.map λw=>(QP w,.bl true)
theorem Xq {a b:List Nat}(h:QP a=QP b):a=b:=by
 unfold QP at h
 induction a generalizing b with
 | nil=>cases b with
  | nil=>rfl
  | cons _ _=>simp at h
 | cons x a ih=>cases b with
  | nil=>simp at h
  | cons y b=>
   rw[aJ,aJ] at h
   injection h with h1 h2
   rw[oC (YM h1),ih h2]
theorem Ex (ws:List (List Nat))(u:List Nat):(EE (mJ ws) (QP u)).isSome=ws.contains u:=by
 rw[<-MI,cZ,jO,aR]
 unfold mJ
 constructor
 ·rintro⟨kv,hm,he⟩
  obtain⟨v,hv,rfl⟩:=bE.mp hm
  have:=Xq (of_decide_eq_true he)
  rw[<-this]
  exact jM.mp hv
 ·intro h
  exact⟨_,bE.mpr ⟨u,jM.mpr h,rfl⟩,decide_eq_true rfl⟩
theorem k8 {ws:List (List Nat)}{u:List Nat}(h:ws.contains u=false):LB (mJ ws) (QP u) (.bl true)=mJ (u::ws):=by
 have hn:EE (mJ ws) (QP u)=none:=by
  have:=Ex ws u
  rw[h] at this
  cases e:EE (mJ ws) (QP u) with
  | none=>rfl
  | some v=>rw[e] at this;cases this
 rw[Ia _ hn]
 unfold mJ
 rw[YT,cC];rfl
theorem Cn (c:Nat):OJ (c:Int)=(aQ c:Nat):=by
 unfold OJ aQ pU
 by_cases h:97<=c/\c<=122
 ·have h1:(97:Int)<=c:=by omega
  have h2:(c:Int)<=122:=by omega
  rw[if_pos h]
  simp[h1,h2]
  omega
 ·rw[if_neg h]
  by_cases h1:(97:Int)<=c
  ·have h2:¬(c:Int)<=122:=by omega
   simp[h2]
  ·simp[h1]
theorem Fp (l:List Nat):((l.map cF).map λb=>V.int (OJ b))=(QP (l.map aQ)).map kV:=by
 unfold QP
 rw[bR,bR,bR]
 apply dD
 intro c _
 show V.int (OJ (c:Int))=V.int ((aQ c:Nat):Int)
 rw[Cn]
structure iK (C:Addr)(H:Hp)(g:Addr)(ws:List (List Nat))(b:List Nat)(dx dw sq:Addr):Prop where
 at_:H g=some (.ins C dx (XM dw sq))
 ws:H dw=some (.dT (mJ ws))
 sqs:H sq=some (.lst (pV b))
 ok:BM b
theorem iK.same {C:Addr}{H H':Hp}{g:Addr}{ws:List (List Nat)}{b:List Nat}{dx dw sq:Addr}(h:iK C H g ws b dx dw sq)(e:aZ H H'):iK C H' g ws b dx dw sq:=⟨e _ _ h.at_,e _ _ h.ws,e _ _ h.sqs,h.ok⟩
section
variable {P:bS}{w:cY}{K:PySem.W.Frag}{mg:Str->Option aC}{A:Ad}{F:Fd}
theorem BA (T:kR K mg A F):fP K A.cD "words":=T.cD.no _ (by simp)
theorem BB (T:kR K mg A F):fP K A.cD "squares":=T.cD.no _ (by simp)
theorem QC:bV ["self","word"] ["self","word"] (defScope DQ):=⟨rfl,rfl,rfl,by decide+kernel,rfl,by decide+kernel,by decide+kernel⟩
def RT (K:PySem.W.Frag)(C:Addr):Sp:=FP λvs H r=>∃(g dx dw sq a:Addr) (ws:List (List Nat)) (b l:List Nat),vs=[.ref g,.ref a]/\iK C H g ws b dx dw sq/\dX K H a (cT l)/\l.length<=100/\r=.bl (ws.contains (l.map aQ))
theorem MJ {K:PySem.W.Frag}{C:Addr}{H:Hp}{Q:VK}{E:XK}{g dx dw sq a:Addr}{ws:List (List Nat)}{b l:List Nat}(G:iK C H g ws b dx dw sq)(hl:dX K H a (cT l))(hz:l.length<=100)(k:∀H',aZ H H'->Q (.bl (ws.contains (l.map aQ))) H'):RT K C [.ref g,.ref a] H Q E:=⟨_,⟨g,dx,dw,sq,a,ws,b,l,rfl,G,hl,hz,rfl⟩,k⟩
theorem AY (T:kR K mg A F):Ok P w K mg 4 A.jC F.jC ["self","word"] (RT K A.cD):=λbase bb=>by
 refine T.jC.F.ok QC (λvs H Q E h=> ?_) (λcdv Ar outer s H vs Q E hr h=> ?_)
 ·obtain⟨r,⟨g,dx,dw,sq,a,ws,b,l,rfl,_⟩,_⟩:=h
  rfl
 ·obtain⟨r,⟨g,dx,dw,sq,a,ws,b,l,rfl,G,hl,hz,rfl⟩,k⟩:=h
  refine⟨_,(aS (bU (E6 (Ml (KD hr) (oF T.iW (vI T base bb) hr (aB (pv 1) aL)) (bY (pv 0) rfl))))),?_⟩
  simp_arith [Zz]
  refine tQ (l:=l.map cF) (by rw[<-sT];exact hl) (by rw[aA,aX];omega) λH1 t s1 ht=> ?_
  have G1:=G.same s1
  simp_arith [↓eY,G1.at_,HO.ins.injEq,T.cD.cl,BA T,BB T,GQ,GR]
  rw[Fp] at ht
  refine⟨_,EV.t G1.ws ht,?_⟩
  rw[Ex]
  exact k _ s1
theorem NB:bV ["self","word"] ["self","word"] (defScope AN):=⟨rfl,rfl,rfl,by decide+kernel,rfl,by decide+kernel,by decide+kernel⟩
def Di (K:PySem.W.Frag)(C:Addr):Sp:=λvs H Q _=>∃(g dx dw sq a:Addr) (ws:List (List Nat)) (b l:List Nat),vs=[.ref g,.ref a]/\iK C H g ws b dx dw sq/\dX K H a (cT l)/\l.length<=15/\
  ((l.length < 2\/l.all bI=false)->∀H',aZ H H'->Q (.int (-1)) H')/\
  (¬(l.length < 2\/l.all bI=false)->ws.contains (l.map aQ)=true->∀H',aZ H H'->Q (.int 0) H')/\
  (¬(l.length < 2\/l.all bI=false)->ws.contains (l.map aQ)=false->4096<=ws.length->∀H',aZ H H'->Q (.int (-2)) H')/\
  (¬(l.length < 2\/l.all bI=false)->ws.contains (l.map aQ)=false->¬4096<=ws.length->∀H',mE dw H H'->iK C H' g (l.map aQ::ws) b dx dw sq->Q (.int 1) H')
theorem NV (T:kR K mg A F):Ok P w K mg 5 A.jK F.jK ["self","word"] (Di K A.cD):=λbase bb=>by
 refine T.jK.F.ok NB (λvs H Q E h=> ?_) (λcdv Ar outer s H vs Q E hr h=> ?_)
 ·obtain⟨g,dx,dw,sq,a,ws,b,l,rfl,_⟩:=h
  rfl
 ·obtain⟨g,dx,dw,sq,a,ws,b,l,rfl,G,hl,hz,k1,k2,k3,k4⟩:=h
  refine⟨_,(aO (gC (PW.pt (Hz (qK (Ic GD GD dS (eQ eR (by rfl) T.sV PySem.boot_len (aB (pv 1) aL)) (fF rfl T.xQ))) (WA (qK (gI (oF T.lL (GH T base bb) hr (aB (pv 1) aL))))))) (aS (bU (yW sC dS))) dN) (aO (gC (gI (IL (pv 0) T.cD T.jC (AY T base bb) hr (aB (pv 1) aL))) (aS (bU dS)) dN) (aO (gC (eB Pp (eQ Nk (by rfl) T.sV PySem.boot_len (aB (bY (pv 0) rfl) aL)) (fF rfl T.Fq) (eZ _)) (aS (bU (yW sC dS))) dN) (aO (Ph (KD hr) (bY (pv 0) rfl) (oF T.iW (vI T base bb) hr (aB (pv 1) aL)) yX rfl) (aS (bU dS)))))),?_⟩
  have hl':∀{H'},aZ H H'->dX K H' a ((l.map cF).map V.int):=λe=>by rw[<-sT];exact e.seq hl
  have hzl:(l.map cF).length<=sizeLine:=by rw[aA,aX];omega
  refine XI (decide (l.length < 2) || !l.all bI) (λR h=> ?_) (λH1 s1 c=> ?_) (λH1 s1 c=> ?_)
  ·simp_arith
   refine⟨_,.inl hl,?_⟩
   rw[fX]
   by_cases h2:l.length < 2
   ·have e1:¬(2:Int)<=(l.length:Int):=by omega
    rw[if_neg e1]
    simpa[h2] using h _ (aZ.refl H)
   ·have e1:(2:Int)<=(l.length:Int):=by omega
    have e2:(l.length:Int)<=15:=by omega
    rw[if_pos e1,if_neg (by simp[e2])]
    refine DB (hl' (aZ.refl H)) hzl λH1 s1=> ?_
    rw[CV]
    refine Kh ?_
    have k0:=h _ s1
    simpa[h2] using k0
  ·simp_arith
   exact k1 (by simpa using c) _ s1
  have c':¬(l.length < 2\/l.all bI=false):=λz=>by
   have:(decide (l.length < 2) || !l.all bI)=true:=by simpa using z
   rw[this] at c;cases c
  have G1:=G.same s1
  refine XI (ws.contains (l.map aQ)) (λR h=> ?_) (λH2 s2 c2=> ?_) (λH2 s2 c2=> ?_)
  ·simp_arith [G1.at_,HO.ins.injEq]
   exact⟨rfl,MJ G1 (s1.seq hl) (by omega) λH2 s2=>h _ s2⟩
  ·simp_arith
   exact k2 c' c2 _ (s1.trans s2)
  have G2:=G1.same s2
  refine OE (decide (4096<=ws.length)) (λR h=> ?_) (λc3=> ?_) (λc3=> ?_)
  ·simp_arith [↓eY,G2.at_,HO.ins.injEq,T.cD.cl,BA T,BB T,GQ,GR]
   refine⟨_,G2.ws,?_⟩
   have e:decide ((4096:Int)<=((mJ ws).length:Int))=decide (4096<=ws.length):=by
    rw[show(mJ ws).length=ws.length by unfold mJ;simp,cZ,decide_eq_true_iff,decide_eq_true_iff]
    omega
   rw[e]
   exact h
  ·simp_arith
   exact k3 c' c2 (of_decide_eq_true c3) _ (s1.trans s2)
  simp_arith [Wc, ↓eY,G2.at_,HO.ins.injEq,T.cD.cl,BA T,BB T,GQ,GR]
  refine tQ (hl' (s1.trans s2)) hzl λH3 t s3 ht=> ?_
  have G3:=G2.same s3
  rw[Fp] at ht
  have hlt:(mJ ws).length < sizeLine:=by
   rw[show(mJ ws).length=ws.length by unfold mJ;simp,aX]
   have:=of_decide_eq_false c3
   omega
  refine⟨_,Ko.t G3.ws ht hlt,k4 c' c2 (of_decide_eq_false c3) _ (λe o he hne=> ?_) ⟨?_,?_,?_,G.ok⟩⟩
  ·rw[aM hne]
   exact((s1.trans s2).trans s3) _ _ he
  ·rw[aM (eK G3.at_ G3.ws (by intro z;cases z))]
   exact G3.at_
  ·rw[aK,k8 c2]
  ·rw[aM (eK G3.sqs G3.ws (by intro z;cases z))]
   exact G3.sqs
abbrev ER:List Str:=["self","laying","made","word"]
theorem kW:bV ["self","laying","made","word"] ["self","laying"] (defScope oT):=⟨rfl,rfl,rfl,by decide+kernel,rfl,by decide+kernel,by decide+kernel⟩
def AD (K:PySem.W.Frag)(CG C:Addr):Sp:=FP λvs H r=>∃(g dgx dw sq p dx aw ar:Addr) (ws:List (List Nat)) (b wd rk:List Nat) (x y d:Int),vs=[.ref g,.ref p]/\iK CG H g ws b dgx dw sq/\uX K C H sq p b x y d wd rk dx aw ar/\(d=0\/d=1)/\Fw x y d wd.length/\
  r=.bl (ws.contains (wd.map aQ)&&(gG b x y d wd).all λl=>ws.contains (l.map aQ))
theorem MK {K:PySem.W.Frag}{CG C:Addr}{H:Hp}{Q:VK}{E:XK}{g dgx dw sq p dx aw ar:Addr}{ws:List (List Nat)}{b wd rk:List Nat}{x y d:Int}(G:iK CG H g ws b dgx dw sq)(L:uX K C H sq p b x y d wd rk dx aw ar)(hd:d=0\/d=1)(hon:Fw x y d wd.length)
  (k:∀H',aZ H H'->Q (.bl (ws.contains (wd.map aQ)&&(gG b x y d wd).all λl=>ws.contains (l.map aQ))) H'):AD K CG C [.ref g,.ref p] H Q E:=⟨_,⟨g,dgx,dw,sq,p,dx,aw,ar,ws,b,wd,rk,x,y,d,rfl,G,L,hd,hon,rfl⟩,k⟩
theorem Wi {H:Hp}{qs:List Addr}{cs:List (List Nat)}(h:CW H qs cs):(qs.zip cs).map (λz=>V.ref z.1)=qs.map V.ref/\(qs.zip cs).map (λz=>z.2)=cs/\∀z∈qs.zip cs,H z.1=some (.lst (cT z.2)):=by
 induction h with
 | nil=>exact⟨rfl,rfl,λz h=>by simp at h⟩
 | cons r _ ih=>
  refine⟨by rw[dH,aJ,aJ,ih.1],by rw[dH,aJ,ih.2.1],λz hz=> ?_⟩
  rw[dH,bN] at hz
  rcases hz with rfl | hz
  ·exact r
  ·exact ih.2.2 z hz
theorem Nh {b:List Nat}{x y d:Int}{wd l:List Nat}(h:l∈gG b x y d wd):l.length<=31:=by
 unfold gG at h
 obtain⟨i,_,rfl⟩:=bE.mp (bO.mp h).1
 exact Ts b x y d wd i
theorem EJ (T:kR K mg A F):Ok P w K mg 8 A.gB F.gB ["self","laying"] (AD K A.cD A.aW):=λbase bb=>by
 refine T.gB.F.ok kW (λvs H Q E h=> ?_) (λcdv Ar outer s H vs Q E hr h=> ?_)
 ·obtain⟨r,⟨g,dgx,dw,sq,p,dx,aw,ar,ws,b,wd,rk,x,y,d,rfl,_⟩,_⟩:=h
  rfl
 ·obtain⟨r,⟨g,dgx,dw,sq,p,dx,aw,ar,ws,b,wd,rk,x,y,d,rfl,G,L,hd,hon,rfl⟩,k⟩:=h
  refine⟨_,(aO (dJ (i:=2) kW.nd rfl (cB rfl) (eL GE (gJ (aB (bY (pv 1) rfl) aL)) (oF T.iF (yZ T base bb) hr (aB (bY (pv 0) rfl) (aB (pv 1) aL))))) (aS (bU (eQ (XW rfl) (by rfl) T.Kg Vf (aB (tI rfl kW.nd (iY (pv 2)) (fN (N:=ER) (sc:=defScope oT) (own:=[("word",3)]) (by decide+kernel)) (λ_ _ _ _ _=>(dG (i:=3) kW.nd rfl (cB rfl))) (λ_ _ _ _ _=>oE) (λ_ _ _ _ _=>(IL (pv 0) T.cD T.jC (AY T base bb) hr (aB (pv 3) aL)))) aL))))),?_⟩
  simp_arith [↓eY,L.at_, ↓rQ,HO.ins.injEq,T.aW.cl,qM T,qL T,qN T,rR T,sQ T,rT,rS,rV,tE,tF,lU,lE]
  refine⟨by rw[aX];decide,λl0 hl0=> ?_⟩
  have s0:aZ H (L2.upd H l0 (.lst [.ref aw])):=aZ.upd hl0
  have G0:=G.same s0
  have L0:=L.same s0
  simp_arith [G0.at_,HO.ins.injEq,T.cD.cl,BA T,BB T,GQ,GR]
  refine xC L0 hd hon λH1 q qs s1 _ hq hr1=> ?_
  have hl1:H1 l0=some (.lst [.ref aw]):=s1 _ _ aK
  have hpl:=CA b x y d wd.length
  have hn:=L.n
  have hql:qs.length<=15:=by
   have h1:=Paired.length hr1
   have h2:(gG b x y d wd).length<=(cE b x y d wd.length).length:=by
    unfold gG
    exact cV (jI _ _) (by rw[aA];exact aU _)
   omega
  refine⟨l0,q,_,_,rfl,rfl,hl1,hq,by rw[aA,aX];show 1+qs.length<=_;omega,λm hm=> ?_⟩
  have s2:aZ H1 (L2.upd H1 m (.lst ([.ref aw]++qs.map V.ref))):=aZ.upd hm
  have s02:=(s0.trans s1).trans s2
  obtain⟨z1,z2,z3⟩:=Wi hr1
  have hcs:∀z∈qs.zip (gG b x y d wd),z.2∈gG b x y d wd:=λz hz=>by
   rw[<-z2];exact bE.mpr ⟨z,hz,rfl⟩
  refine Ux (xs:=(aw,wd)::qs.zip (gG b x y d wd)) (λz=>V.ref z.1) (λz=>some (.bl (ws.contains (z.2.map aQ)))) (Ld (L2.upd H1 m (.lst ([.ref aw]++qs.map V.ref))) m) (λR h=>h _ _ ⟨rfl,rfl⟩)
   (λa' H' c=>by rw[c.1,c.2,aJ,z1];exact dX.of aK) (by rw[cM,sZ,aX];omega) ?_ ?_
  ·rintro _ _ D ⟨rfl,rfl⟩ hD i z H' acc Nx hz e1 e2 e3 k2
   have hG:=G.same (s02.trans e1)
   have hlz:dX K H' z.1 (cT z.2)/\z.2.length<=100:=by
    rcases bN.mp (aY hz) with e | hm'
    ·subst e
     exact⟨(s02.trans e1).seq L.l.w,by show wd.length<=100;omega⟩
    ·exact⟨dX.of (e1 _ _ (s2 _ _ (z3 z hm'))),cV (Nh (hcs z hm')) (by decide)⟩
   simp_arith [hG.at_,HO.ins.injEq]
   exact⟨rfl,MJ hG hlz.1 hlz.2 λH4 s4=>rZ.yes k2 e2 e3 s4⟩
  ·rintro _ _ D H3 ⟨rfl,rfl⟩ hD e1 e2
   refine⟨D,((aw,wd)::qs.zip (gG b x y d wd)).map λz=>ws.contains (z.2.map aQ),rfl,.inl (.inl (by rw[e2,LQ,bR];rfl)),?_⟩
   have k0:=k _ (s02.trans e1)
   rw[YH,ET]
   have e:(qs.zip (gG b x y d wd)).all (λz=>ws.contains (z.2.map aQ))=(gG b x y d wd).all λl=>ws.contains (l.map aQ):=by
    have:((qs.zip (gG b x y d wd)).map λz=>z.2).all (λl=>ws.contains (l.map aQ))=(gG b x y d wd).all λl=>ws.contains (l.map aQ):=by rw[z2]
    rw[<-this,uW];rfl
   rw[e]
   exact k0
theorem ZQ:bV ["self","laying"] ["self","laying"] (defScope NH):=⟨rfl,rfl,rfl,by decide+kernel,rfl,by decide+kernel,by decide+kernel⟩
def Hi (K:PySem.W.Frag)(CG C:Addr):Sp:=FP λvs H r=>∃(g dgx dw sq p dx aw ar:Addr) (ws:List (List Nat)) (b wd rk:List Nat) (x y d:Int),vs=[.ref g,.ref p]/\iK CG H g ws b dgx dw sq/\Ur K C H p x y d wd rk dx aw ar/\wd.length<=15/\rk.length<=7/\
  r=.int (gT ⟨ws,b⟩ x y d wd rk)
theorem PM {K:PySem.W.Frag}{CG C:Addr}{H:Hp}{Q:VK}{E:XK}{g dgx dw sq p dx aw ar:Addr}{ws:List (List Nat)}{b wd rk:List Nat}{x y d:Int}(G:iK CG H g ws b dgx dw sq)(L:Ur K C H p x y d wd rk dx aw ar)(hw:wd.length<=15)(hk:rk.length<=7)
  (k:∀H',aZ H H'->Q (.int (gT ⟨ws,b⟩ x y d wd rk)) H'):Hi K CG C [.ref g,.ref p] H Q E:=⟨_,⟨g,dgx,dw,sq,p,dx,aw,ar,ws,b,wd,rk,x,y,d,rfl,G,L,hw,hk,rfl⟩,k⟩
theorem Ig {x y d:Int}{wd rk:List Nat}(h:gQ x y d wd rk=true):kZ x y=true/\(d=0\/d=1)/\1<=wd.length/\nD (rk.map cF)=true/\∀c∈wd,bI c=true:=by
 unfold gQ at h
 simp only[bH] at h
 obtain⟨⟨⟨⟨⟨h1,h2⟩,h3⟩,h4⟩,h5⟩,h6⟩:=h
 refine⟨h1,by simpa using h2,of_decide_eq_true h3,h5,?_⟩
 rw[CV] at h6
 exact cN.mp h6
theorem zP (T:kR K mg A F):Ok P w K mg 9 A.lT F.lT ["self","laying"] (Hi K A.cD A.aW):=λbase bb=>by
 refine T.lT.F.ok ZQ (λvs H Q E h=> ?_) (λcdv Ar outer s H vs Q E hr h=> ?_)
 ·obtain⟨r,⟨g,dgx,dw,sq,p,dx,aw,ar,ws,b,wd,rk,x,y,d,rfl,_⟩,_⟩:=h
  rfl
 ·obtain⟨r,⟨g,dgx,dw,sq,p,dx,aw,ar,ws,b,wd,rk,x,y,d,rfl,G,L,hw,hk,rfl⟩,k⟩:=h
  refine⟨_,(aO (gC (qK (gI (oF T.rD (Ek T base bb) hr (aB (pv 1) aL)))) (aS (bU (yW sC dS))) dN) (aO (gC (qK (gI (oF T.fits (j0 T base bb) hr (aB (bY (pv 0) rfl) (aB (pv 1) aL))))) (aS (bU (yW sC dS))) dN) (aO (gC (qK (gI (oF T.lJ (TX T base bb) hr (aB (bY (pv 0) rfl) (aB (pv 1) aL))))) (aS (bU (yW sC dS))) dN) (aO (gC (qK (gI (oF T.yM (Mp T base bb) hr (aB (bY (pv 0) rfl) (aB (pv 1) aL))))) (aS (bU (yW sC dS))) dN) (aO (gC (qK (gI (IL (pv 0) T.cD T.gB (EJ T base bb) hr (aB (pv 1) aL)))) (aS (bU (yW sC dS))) dN) (aS (bU (oF T.jB (AW T base bb) hr (aB (oF T.mR (WM T base bb) hr (aB (bY (pv 0) rfl) (aB (pv 1) aL))) (aB (bY (pv 1) rfl) aL)))))))))),?_⟩
  refine XI (!gQ x y d wd rk) (λR h=> ?_) (λH1 s1 c1=> ?_) (λH1 s1 c1=> ?_)
  ·simp_arith
   exact⟨_,⟨p,dx,aw,ar,x,y,d,wd,rk,rfl,L,hw,hk,rfl⟩,λH1 s1=>h _ s1⟩
  ·simp_arith
   have k0:=k _ s1
   unfold gT at k0
   rw[if_pos (Pr c1)] at k0
   exact k0
  have c1':=Mr c1
  obtain⟨hon,hd,hn1,hrk,hwl⟩:=Ig c1'
  have k':∀H',aZ H H'->Q (.int (rC ⟨ws,b⟩ x y d wd rk)) H':=λH' e=>by
   have k0:=k _ e
   unfold gT at k0
   rw[if_neg (by rw[c1'];exact cO)] at k0
   exact k0
  have G1:=G.same s1
  have L1:uX K A.aW H1 sq p b x y d wd rk dx aw ar:=⟨dX.of G1.sqs,G.ok,L.same s1,hw,hwl⟩
  refine XI (!lV b x y d wd) (λR h=> ?_) (λH2 s2 c2=> ?_) (λH2 s2 c2=> ?_)
  ·simp_arith [↓eY,G1.at_,HO.ins.injEq,T.cD.cl,BA T,BB T,GQ,GR]
   exact Vn L1 λH2 s2=>h _ s2
  ·simp_arith
   have k0:=k' _ (s1.trans s2)
   unfold rC at k0
   rw[if_pos (Pr c2)] at k0
   exact k0
  have c2':=Mr c2
  have n2:¬lV b x y d wd=false:=by rw[c2'];exact cO
  have G2:=G1.same s2
  have L2':=L1.same s2
  have hon2:Fw x y d wd.length:=by
   refine Eg hd hon ?_
   unfold lV at c2'
   simp only[bH] at c2'
   exact c2'.1.1.1.2
  refine XI (!fG rk ((cE b x y d wd.length).map λi=>wd.getD i 0)) (λR h=> ?_) (λH3 s3 c3=> ?_) (λH3 s3 c3=> ?_)
  ·simp_arith [↓eY,G2.at_,HO.ins.injEq,T.cD.cl,BA T,BB T,GQ,GR]
   exact PP L2' λH3 s3=>h _ s3
  ·simp_arith
   have k0:=k' _ ((s1.trans s2).trans s3)
   unfold rC at k0
   rw[if_neg n2,if_pos (Pr c3)] at k0
   exact k0
  have n3:¬fG rk ((cE b x y d wd.length).map λi=>wd.getD i 0)=false:=by rw[Mr c3];exact cO
  have G3:=G2.same s3
  have L3:=L2'.same s3
  refine XI (!nY b x y d wd) (λR h=> ?_) (λH4 s4 c4=> ?_) (λH4 s4 c4=> ?_)
  ·simp_arith [↓eY,G3.at_,HO.ins.injEq,T.cD.cl,BA T,BB T,GQ,GR]
   exact Gr L3 hd hon2 λH4 s4=>h _ s4
  ·simp_arith
   have k0:=k' _ (((s1.trans s2).trans s3).trans s4)
   unfold rC at k0
   rw[if_neg n2,if_neg n3,if_pos (Pr c4)] at k0
   exact k0
  have n4:¬nY b x y d wd=false:=by rw[Mr c4];exact cO
  have G4:=G3.same s4
  have L4:=L3.same s4
  refine XI (!(ws.contains (wd.map aQ)&&(gG b x y d wd).all λl=>ws.contains (l.map aQ))) (λR h=> ?_) (λH5 s5 c5=> ?_) (λH5 s5 c5=> ?_)
  ·simp_arith [G4.at_,HO.ins.injEq]
   exact⟨rfl,MK G4 L4 hd hon2 λH5 s5=>h _ s5⟩
  ·simp_arith
   have k0:=k' _ ((((s1.trans s2).trans s3).trans s4).trans s5)
   unfold rC at k0
   rw[if_neg n2,if_neg n3,if_neg n4,if_pos (show(gS ⟨ws,b⟩ wd&&(gG b x y d wd).all λl=>gS ⟨ws,b⟩ l)=false from Pr c5)] at k0
   exact k0
  have n5:¬(gS ⟨ws,b⟩ wd&&(gG b x y d wd).all λl=>gS ⟨ws,b⟩ l)=false:=by
   show¬(ws.contains (wd.map aQ)&&(gG b x y d wd).all λl=>ws.contains (l.map aQ))=false
   rw[Mr c5];exact cO
  have G5:=G4.same s5
  have L5:=L4.same s5
  simp_arith [↓eY,G5.at_,HO.ins.injEq,T.cD.cl,BA T,BB T,GQ,GR]
  refine TJ L5 hd hon2 λH6 q zs s6 _ S e6=> ?_
  have L6:=L5.same s6
  simp_arith [↓eY,L6.at_,HO.ins.injEq,T.aW.cl,qM T,qL T,qN T,rR T,sQ T,rT,rS,rV,tE,tF,lU,lE]
  have hlen:zs.length=wd.length:=by
   have:=congrArg iI e6
   rw[aA] at this
   rw[this]
   unfold dB
   rw[aA,cR]
  refine yK S L6.l.w hlen hw hwl λH7 s7=> ?_
  rw[e6,count_eq b x y d wd hd]
  have k0:=k' _ ((((((s1.trans s2).trans s3).trans s4).trans s5).trans s6).trans s7)
  unfold rC at k0
  rw[if_neg n2,if_neg n3,if_neg n4,if_neg n5] at k0
  exact k0
end
theorem mE.trans {g:Addr}{H H1 H2:Hp}(a:mE g H H1)(b:mE g H1 H2):mE g H H2:=λc o h hne=>b c o (a c o h hne) hne
theorem mE.same {g:Addr}{H H1:Hp}(a:aZ H H1):mE g H H1:=λc o h _=>a c o h
theorem mE.upd {g:Addr}{H:Hp}{o:HO}:mE g H (L2.upd H g o):=λc u h hne=>by rw[aM hne];exact h
theorem mE.seq {K:PySem.W.Frag}{H H':Hp}{g a:Addr}{xs:List V}{o:HO}(e:mE g H H')(hg:H g=some o)(ho:∀u,o≠ .lst u/\∀q,o≠ .frz q (.lst u))(h:dX K H a xs):dX K H' a xs:=by
 rcases h with(h | ⟨q,h⟩) | h
 ·refine .inl (.inl (e _ _ h ?_))
  intro z;rw[z,hg] at h;exact(ho xs).1 (cX h)
 ·refine .inl (.inr ⟨q,e _ _ h ?_⟩)
  intro z;rw[z,hg] at h;exact(ho xs).2 q (cX h)
 ·exact .inr h
def XS:List Nat:=cU 225 0
theorem Ci:BM XS:=⟨Vi ..,λc h=>.inl (List.eq_of_mem_replicate h)⟩
section
variable {P:bS}{w:cY}{K:PySem.W.Frag}{mg:Str->Option aC}{A:Ad}{F:Fd}
theorem Dx:bV ["self"] ["self"] (defScope SF):=⟨rfl,rfl,rfl,by decide+kernel,rfl,by decide+kernel,by decide+kernel⟩
def Dk (C:Addr):Sp:=λvs H Q _=>∃(g dx:Addr),vs=[.ref g]/\H g=some (.ins C dx [])/\∀H' dw sq,mE g H H'->H dw=none->H sq=none->iK C H' g [] XS dx dw sq->Q .non H'
theorem Er (T:kR K mg A F):Ok P w K mg 2 A.pL F.pL ["self"] (Dk A.cD):=λbase bb=>by
 refine T.pL.F.ok Dx (λvs H Q E h=> ?_) (λcdv Ar outer s H vs Q E hr h=> ?_)
 ·obtain⟨g,dx,rfl,_⟩:=h
  rfl
 ·obtain⟨g,dx,rfl,hg,k⟩:=h
  refine⟨_,(aO (gO (pv 0) Il rfl) (aS (gO (pv 0) (U0 T.jA (AV T base bb) hr) rfl))),?_⟩
  simp_arith [↓Be,Ls]
  intro dw hdw
  have hgd:g≠dw:=bJ hg hdw
  refine⟨A.cD,dx,[],by rw[aM hgd];exact hg,T.cD.cl,BA T,by show 0 < 1000;decide,λH2 sq s2 hsq hsq2=> ?_⟩
  have hg2:=s2 _ _ aK
  refine⟨_,_,_,hg2,T.cD.cl,BB T,by show 1 < 1000;decide,?_⟩
  have hsg:sq≠g:=λz=>by rw[z,aK] at hsq;cases hsq
  have hsd:sq≠dw:=λz=>by rw[z,aM (fE hgd),aK] at hsq;cases hsq
  have hdw2:H2 dw=some (.dT []):=s2 _ _ (by rw[aM (fE hgd),aK])
  refine k _ dw sq (λc o h hne=> ?_) hdw ?_ ⟨?_,?_,?_,Ci⟩
  ·rw[aM hne]
   exact s2 _ _ (by rw[aM hne,aM (bJ h hdw)];exact h)
  ·cases e:H sq with
   | none=>rfl
   | some o=>
    rw[aM hsg,aM hsd,e] at hsq
    cases hsq
  ·rw[aK];rfl
  ·rw[aM (fE hgd)];exact hdw2
  ·rw[aM hsg];exact hsq2
theorem KZ:bV ["self"] ["self"] (defScope yU):=⟨rfl,rfl,rfl,by decide+kernel,rfl,by decide+kernel,by decide+kernel⟩
def ZK (C:Addr):Sp:=λvs H Q _=>∃(g dx dw0 sq0:Addr),vs=[.ref g]/\H g=some (.ins C dx (XM dw0 sq0))/\∀H' dw sq,mE g H H'->H dw=none->H sq=none->iK C H' g [] XS dx dw sq->Q (.int 0) H'
theorem LK (T:kR K mg A F):Ok P w K mg 2 A.iQ F.iQ ["self"] (ZK A.cD):=λbase bb=>by
 refine T.iQ.F.ok KZ (λvs H Q E h=> ?_) (λcdv Ar outer s H vs Q E hr h=> ?_)
 ·obtain⟨g,dx,dw0,sq0,rfl,_⟩:=h
  rfl
 ·obtain⟨g,dx,dw0,sq0,rfl,hg,k⟩:=h
  refine⟨_,(aO (gO (pv 0) Il rfl) (aO (gO (pv 0) (U0 T.jA (AV T base bb) hr) rfl) (aS (bU dS)))),?_⟩
  simp_arith [↓Be,Ls]
  intro dw hdw
  have hgd:g≠dw:=bJ hg hdw
  refine⟨A.cD,dx,XM dw0 sq0,by rw[aM hgd];exact hg,T.cD.cl,BA T,by show 2 < 1000;decide,λH2 sq s2 hsq hsq2=> ?_⟩
  have hg2:=s2 _ _ aK
  refine⟨_,_,_,hg2,T.cD.cl,BB T,by show 2 < 1000;decide,?_⟩
  have hsg:sq≠g:=λz=>by rw[z,aK] at hsq;cases hsq
  have hsd:sq≠dw:=λz=>by rw[z,aM (fE hgd),aK] at hsq;cases hsq
  have hdw2:H2 dw=some (.dT []):=s2 _ _ (by rw[aM (fE hgd),aK])
  refine k _ dw sq (λc o h hne=> ?_) hdw ?_ ⟨?_,?_,?_,Ci⟩
  ·rw[aM hne]
   exact s2 _ _ (by rw[aM hne,aM (bJ h hdw)];exact h)
  ·cases e:H sq with
   | none=>rfl
   | some o=>
    rw[aM hsg,aM hsd,e] at hsq
    cases hsq
  ·rw[aK];rfl
  ·rw[aM (fE hgd)];exact hdw2
  ·rw[aM hsg];exact hsq2
end
theorem mE.free {r c:Addr}{H H':Hp}(e:mE r H H')(h:H' c=none)(hne:c≠r):H c=none:=by
 cases q:H c with
 | none=>rfl
 | some o=>rw[e _ _ q hne] at h;cases h
def Bd (a:Addr)(n:Int):List (Str×V):=[("calls",.ref a),("position",.int n)]
theorem Jf (a:Addr)(n:Int):(Bd a n).lookup ("calls":Str)=some (.ref a):=rfl
theorem Je (a:Addr)(n:Int):(Bd a n).lookup ("position":Str)=some (.int n):=rfl
structure yB (K:PySem.W.Frag)(C:Addr)(H:Hp)(r a dx:Addr)(ns:List Int)(n:Nat):Prop where
 at_:H r=some (.ins C dx (Bd a n))
 sq:dX K H a (ns.map V.int)
 le:n<=ns.length
 z:ns.length<=30000
theorem yB.same {K:PySem.W.Frag}{C:Addr}{H H':Hp}{r a dx:Addr}{ns:List Int}{n:Nat}(h:yB K C H r a dx ns n)(e:aZ H H'):yB K C H' r a dx ns n:=⟨e _ _ h.at_,e.seq h.sq,h.le,h.z⟩
theorem yB.but {K:PySem.W.Frag}{C g:Addr}{H H':Hp}{r a dx:Addr}{ns:List Int}{n:Nat}{o:HO}(h:yB K C H r a dx ns n)(e:mE g H H')(hg:H g=some o)(hne:r≠g)(ho:∀u,o≠ .lst u/\∀q,o≠ .frz q (.lst u)):yB K C H' r a dx ns n:=⟨e _ _ h.at_ hne,e.seq hg ho h.sq,h.le,h.z⟩
theorem Xw (C dx:Addr)(fs:List (Str×V)):∀u,HO.ins C dx fs≠ .lst u/\∀q,HO.ins C dx fs≠ .frz q (.lst u):=λu=>⟨(by intro z;cases z),λq z=>by cases z⟩
theorem Qv (xs:List V)(i k:Nat)(h:i+k<=xs.length):QT xs (some (i:Int)) (some ((i:Int)+(k:Int)))=(xs.drop i).take k:=by
 unfold QT
 rw[HT.sIx_nat,show((i:Int)+(k:Int))=((i+k:Nat):Int) by omega,HT.sIx_nat,LZ h,LZ (by omega)]
 congr 1
 omega
theorem yB.moved {K:PySem.W.Frag}{C:Addr}{H:Hp}{r a dx:Addr}{ns:List Int}{n m:Nat}(h:yB K C H r a dx ns n)(hm:m<=ns.length):yB K C (L2.upd H r (.ins C dx (fL (hU "position") (V.int (m:Int)) (Bd a n)))) r a dx ns m:=
 ⟨by rw[aK];rfl,mE.seq mE.upd h.at_ (Xw _ _ _) h.sq,hm,h.z⟩
section
variable {P:bS}{w:cY}{K:PySem.W.Frag}{mg:Str->Option aC}{A:Ad}{F:Fd}
theorem Bp (T:kR K mg A F):fP K A.cI "calls":=T.cI.no _ (by simp)
theorem Bo (T:kR K mg A F):fP K A.cI "position":=T.cI.no _ (by simp)
theorem VQ:bV ["self","calls"] ["self","calls"] (defScope JO):=⟨rfl,rfl,rfl,by decide+kernel,rfl,by decide+kernel,by decide+kernel⟩
def VI (C:Addr):Sp:=λvs H Q _=>∃(r a dx:Addr),vs=[.ref r,.ref a]/\H r=some (.ins C dx [])/\∀H',mE r H H'->H' r=some (.ins C dx (Bd a 0))->Q .non H'
theorem WT (T:kR K mg A F):Ok P w K mg 1 A.lN F.lN ["self","calls"] (VI A.cI):=λbase bb=>by
 refine T.lN.F.ok VQ (λvs H Q E h=> ?_) (λcdv Ar outer s H vs Q E hr h=> ?_)
 ·obtain⟨r,a,dx,rfl,_⟩:=h
  rfl
 ·obtain⟨r,a,dx,rfl,hr',k⟩:=h
  refine⟨_,(aO (gO (pv 0) (pv 1) rfl) (aS (gO (pv 0) dS rfl))),?_⟩
  simp_arith [↓Be,hr',HO.ins.injEq,T.cI.cl,Bp T,Bo T,aK,Dg]
  exact⟨by show 0 < 1000;decide,by show 1 < 1000;decide,k _ mE.upd (by rw[aK];rfl)⟩
theorem KY:bV ["self"] ["self"] (defScope yT):=⟨rfl,rfl,rfl,by decide+kernel,rfl,by decide+kernel,by decide+kernel⟩
def Hj (K:PySem.W.Frag)(C:Addr):Sp:=FP λvs H v=>∃(r a dx:Addr) (ns:List Int) (n:Nat),vs=[.ref r]/\yB K C H r a dx ns n/\v=.bl (decide (n < ns.length))
theorem LJ (T:kR K mg A F):Ok P w K mg 1 A.iN F.iN ["self"] (Hj K A.cI):=λbase bb=>by
 refine T.iN.F.ok KY (λvs H Q E h=> ?_) (λcdv Ar outer s H vs Q E hr h=> ?_)
 ·obtain⟨v,⟨r,a,dx,ns,n,rfl,_⟩,_⟩:=h
  rfl
 ·obtain⟨v,⟨r,a,dx,ns,n,rfl,R,rfl⟩,k⟩:=h
  refine⟨_,(aS (bU (uE WK (bY (pv 0) rfl) (eQ eR (by rfl) T.sV PySem.boot_len (aB (bY (pv 0) rfl) aL)) (eZ _)))),?_⟩
  simp_arith [↓eY,R.at_,HO.ins.injEq,T.cI.cl,Bp T,Bo T,Jf,Je]
  refine⟨_,.inl R.sq,?_⟩
  rw[aA,show decide ((n:Int) < (ns.length:Int))=decide (n < ns.length) by rw[cZ];simp]
  exact k _ (aZ.refl H)
theorem tH:bV ["self","number"] ["self"] (defScope uJ):=⟨rfl,rfl,rfl,by decide+kernel,rfl,by decide+kernel,by decide+kernel⟩
def FH (K:PySem.W.Frag)(C:Addr):Sp:=λvs H Q _=>∃(r a dx:Addr) (ns:List Int) (n:Nat),vs=[.ref r]/\yB K C H r a dx ns n/\n < ns.length/\∀H',mE r H H'->yB K C H' r a dx ns (n+1)->Q (.int (ns.getD n 0)) H'
theorem nH {K:PySem.W.Frag}{C:Addr}{H:Hp}{Q:VK}{E:XK}{r a dx:Addr}{ns:List Int}{n:Nat}(R:yB K C H r a dx ns n)(hn:n < ns.length)(k:∀H',mE r H H'->yB K C H' r a dx ns (n+1)->Q (.int (ns.getD n 0)) H'):FH K C [.ref r] H Q E:=⟨r,a,dx,ns,n,rfl,R,hn,k⟩
theorem iT (T:kR K mg A F):Ok P w K mg 1 A.eA F.eA ["self"] (FH K A.cI):=λbase bb=>by
 refine T.eA.F.ok tH (λvs H Q E h=> ?_) (λcdv Ar outer s H vs Q E hr h=> ?_)
 ·obtain⟨r,a,dx,ns,n,rfl,_⟩:=h
  rfl
 ·obtain⟨r,a,dx,ns,n,rfl,R,hn,k⟩:=h
  refine⟨_,(aO (dJ (i:=1) tH.nd rfl (cB rfl) (uM qE (bY (pv 0) rfl) (bY (pv 0) rfl) (λ_ _=>rfl))) (aO (gO (pv 0) (eL jR (bY (pv 0) rfl) dS) rfl) (aS (bU (pv 1))))),?_⟩
  simp_arith [↓eY, ↓Be,R.at_,HO.ins.injEq,T.cI.cl,Bp T,Bo T,Jf,Je]
  refine⟨_,_,_,.int (ns.getD n 0),rfl,rfl,R.sq,uO (j:=n) rfl ?_,?_⟩
  ·rw[aP,aF,aE hn];rfl
  ·simp_arith [R.at_,HO.ins.injEq,T.cI.cl,Bp T,Bo T,Jf,Je]
   exact⟨by show 2 < 1000;decide,k _ mE.upd (R.moved (m:=n+1) (by omega))⟩
theorem qH:bV ["self","length","row"] ["self"] (defScope yS):=⟨rfl,rfl,rfl,by decide+kernel,rfl,by decide+kernel,by decide+kernel⟩
def RS (K:PySem.W.Frag)(C:Addr):Sp:=λvs H Q _=>∃(r a dx:Addr) (ns:List Int) (n k:Nat),vs=[.ref r]/\yB K C H r a dx ns n/\vV ns n k/\∀H' q,mE r H H'->yB K C H' r a dx ns (n+1+k)->H q=none->H' q=some (.lst ((rowOf ns n k).map V.int))->Q (.ref q) H'
theorem wD {K:PySem.W.Frag}{C:Addr}{H:Hp}{Q:VK}{E:XK}{r a dx:Addr}{ns:List Int}{n k:Nat}(R:yB K C H r a dx ns n)(hk:vV ns n k)(kk:∀H' q,mE r H H'->yB K C H' r a dx ns (n+1+k)->H q=none->H' q=some (.lst ((rowOf ns n k).map V.int))->Q (.ref q) H'):RS K C [.ref r] H Q E:=⟨r,a,dx,ns,n,k,rfl,R,hk,kk⟩
theorem nA (T:kR K mg A F):Ok P w K mg 2 A.fO F.fO ["self"] (RS K A.cI):=λbase bb=>by
 refine T.fO.F.ok qH (λvs H Q E h=> ?_) (λcdv Ar outer s H vs Q E hr h=> ?_)
 ·obtain⟨r,a,dx,ns,n,k,rfl,_⟩:=h
  rfl
 ·obtain⟨r,a,dx,ns,n,k,rfl,R,⟨hk,hle⟩,kk⟩:=h
  refine⟨_,(aO (dJ (i:=1) qH.nd rfl (cB rfl) (NJ (pv 0) T.cI T.eA (iT T base bb) hr)) (aO (dJ (i:=2) qH.nd rfl (cB rfl) (NM UH (bY (pv 0) rfl) (HQ (bY (pv 0) rfl)) (HQ (eL jR (bY (pv 0) rfl) (pv 1))))) (aO (gO (pv 0) (eL jR (bY (pv 0) rfl) (pv 1)) rfl) (aS (bU (pv 2)))))),?_⟩
  have hn:n < ns.length:=by omega
  have eg:ns.getD n 0=(k:Int):=by rw[aF,hk];rfl
  simp_arith [R.at_,HO.ins.injEq]
  refine⟨rfl,nH R hn λH1 b1 R1=> ?_⟩
  rw[eg]
  simp_arith [↓eY, ↓Be,P0,Ap,Sg,R1.at_,HO.ins.injEq,T.cI.cl,Bp T,Bo T,Jf,Je]
  refine⟨_,R1.sq,λq hq=> ?_⟩
  have e1:QT (ns.map V.int) (some ((n+1:Nat):Int)) (some (((n+1:Nat):Int)+(k:Int)))=(rowOf ns n k).map V.int:=by
   rw[Qv _ _ _ (by rw[aA];exact hle)]
   unfold rowOf
   rw[TF,TH]
  rw[e1]
  have R2:=R1.same (aZ.upd (o:=.lst ((rowOf ns n k).map V.int)) hq)
  simp_arith [R2.at_,HO.ins.injEq,T.cI.cl,Bp T,Bo T,Jf,Je]
  refine⟨by show 2 < 1000;decide,?_⟩
  have hqr:q≠r:=λz=>by rw[z,R1.at_] at hq;cases hq
  refine kk _ q ((b1.trans (mE.same (aZ.upd hq))).trans mE.upd) ?_ ?_ ?_
  ·have:=R2.moved (m:=n+1+k) (by omega)
   simpa using this
  ·cases e:H q with
   | none=>rfl
   | some o=>rw[b1 _ _ e hqr] at hq;cases hq
  ·rw[aM hqr,aK]
theorem gN:bV ["self","x","y","down","word","rack"] ["self"] (defScope uK):=⟨rfl,rfl,rfl,by decide+kernel,rfl,by decide+kernel,by decide+kernel⟩
def VD (K:PySem.W.Frag)(CR C:Addr):Sp:=λvs H Q _=>∃(r a dx:Addr) (ns:List Int) (n kw kr:Nat),vs=[.ref r]/\yB K CR H r a dx ns n/\n+3<=ns.length/\vV ns (n+3) kw/\vV ns (n+3+1+kw) kr/\
  ∀H' p dl aw ar,mE r H H'->yB K CR H' r a dx ns (n+3+1+kw+1+kr)->H p=none->H' p=some (.ins C dl (GS (ns.getD n 0) (ns.getD (n+1) 0) (ns.getD (n+2) 0) aw ar))->H aw=none->H ar=none->H' aw=some (.lst ((rowOf ns (n+3) kw).map V.int))->H' ar=some (.lst ((rowOf ns (n+3+1+kw) kr).map V.int))->Q (.ref p) H'
theorem tK (T:kR K mg A F):Ok P w K mg 3 A.fJ F.fJ ["self"] (VD K A.cI A.aW):=λbase bb=>by
 refine T.fJ.F.ok gN (λvs H Q E h=> ?_) (λcdv Ar outer s H vs Q E hr h=> ?_)
 ·obtain⟨r,a,dx,ns,n,kw,kr,rfl,_⟩:=h
  rfl
 ·obtain⟨r,a,dx,ns,n,kw,kr,rfl,R,h3,hkw,hkr,k⟩:=h
  refine⟨_,(aO (dJ (i:=1) gN.nd rfl (cB rfl) (NJ (pv 0) T.cI T.eA (iT T base bb) hr)) (aO (dJ (i:=2) gN.nd rfl (cB rfl) (NJ (pv 0) T.cI T.eA (iT T base bb) hr)) (aO (dJ (i:=3) gN.nd rfl (cB rfl) (NJ (pv 0) T.cI T.eA (iT T base bb) hr)) (aO (dJ (i:=4) gN.nd rfl (cB rfl) (NJ (pv 0) T.cI T.fO (nA T base bb) hr)) (aO (dJ (i:=5) gN.nd rfl (cB rfl) (NJ (pv 0) T.cI T.fO (nA T base bb) hr)) (aS (bU (y9 T.Br T.aW T.kJ (GJ T base bb) hr (aB (pv 1) (aB (pv 2) (aB (pv 3) (aB (pv 4) (aB (pv 5) aL))))))))))))),?_⟩
  simp_arith [R.at_,HO.ins.injEq]
  refine⟨rfl,nH R (by omega) λH1 b1 R1=> ?_⟩
  simp_arith [R1.at_,HO.ins.injEq]
  refine⟨rfl,nH R1 (by omega) λH2 b2 R2=> ?_⟩
  simp_arith [R2.at_,HO.ins.injEq]
  refine⟨rfl,nH R2 (by omega) λH3 b3 R3=> ?_⟩
  simp_arith [R3.at_,HO.ins.injEq]
  refine⟨rfl,wD R3 hkw λH4 aw b4 R4 haw haw4=> ?_⟩
  simp_arith [R4.at_,HO.ins.injEq]
  refine⟨rfl,wD R4 hkr λH5 ar b5 R5 har har5=> ?_⟩
  simp_arith [↓AQ]
  intro p dl hp hdl hne
  refine⟨dl,aK,λH6 h6 k6=> ?_⟩
  have s6:aZ H5 H6:=aZ.made hp hdl k6
  have b05:mE r H H5:=(((b1.trans b2).trans b3).trans b4).trans b5
  have hpr:p≠r:=λz=>by rw[z,R5.at_] at hp;cases hp
  have hwr:aw≠r:=λz=>by rw[z,R3.at_] at haw;cases haw
  have hrr:ar≠r:=λz=>by rw[z,R4.at_] at har;cases har
  have haw5:=b5 _ _ haw4 hwr
  exact k H6 p dl aw ar (b05.trans (mE.same s6)) (R5.same s6) (b05.free hp hpr) h6 (((b1.trans b2).trans b3).free haw hwr) ((((b1.trans b2).trans b3).trans b4).free har hrr) (s6 _ _ haw5) (s6 _ _ har5)
end
theorem Yh (b:List Nat)(k c:Nat)(h:bI c=true):(pV b).set k (.int (c:Nat))=pV (b.set k c):=by
 unfold pV
 rw[fb]
 congr 2
 unfold sq
 rw[gR] at h
 rw[if_neg (by omega)]
theorem Xt {n:Nat}{i:Int}{j:Nat}(e:i=(j:Int))(h:j < n):l7 n i=some j:=by
 subst e
 unfold l7
 rw[if_pos (by omega),if_pos (by omega),kN]
section
variable {P:bS}{w:cY}{K:PySem.W.Frag}{mg:Str->Option aC}{A:Ad}{F:Fd}
theorem Ho:bV ["capital"] ["capital"] (defScope VV):=⟨rfl,rfl,rfl,by decide+kernel,rfl,by decide+kernel,by decide+kernel⟩
def Hh:Sp:=FP λvs _ r=>∃c:Int,vs=[.int c]/\r=.int (c+32)
theorem Ir (T:kR K mg A F):Ok P w K mg 1 A.uH F.uH ["capital"] Hh:=λbase bb=>by
 refine T.uH.F.ok Ho (λvs H Q E h=> ?_) (λcdv Ar outer s H vs Q E hr h=> ?_)
 ·obtain⟨r,⟨c,rfl,_⟩,_⟩:=h
  rfl
 ·obtain⟨r,⟨c,rfl,rfl⟩,k⟩:=h
  refine⟨_,(aS (bU (eL jR (pv 0) (fF rfl T.SW)))),?_⟩
  simp_arith
  exact k _ (aZ.refl H)
theorem ZN:bV ["squares","x","y","letter"] ["squares","x","y","letter"] (defScope ND):=⟨rfl,rfl,rfl,by decide+kernel,rfl,by decide+kernel,by decide+kernel⟩
def JG:Sp:=λvs H Q _=>∃(a:Addr) (b:List Nat) (x y:Int) (c:Nat),vs=[.ref a,.int x,.int y,.int c]/\H a=some (.lst (pV b))/\BM b/\(0<=x/\x < 15/\0<=y/\y < 15)/\bI c=true/\Q .non (L2.upd H a (.lst (pV (b.set (x+15 * y).toNat c))))
theorem UT {H:Hp}{Q:VK}{E:XK}{a:Addr}{b:List Nat}{x y:Int}{c:Nat}(h:H a=some (.lst (pV b)))(hb:BM b)(hon:0<=x/\x < 15/\0<=y/\y < 15)(hc:bI c=true)(k:Q .non (L2.upd H a (.lst (pV (b.set (x+15 * y).toNat c))))):JG [.ref a,.int x,.int y,.int c] H Q E:=⟨a,b,x,y,c,rfl,h,hb,hon,hc,k⟩
theorem ZR (T:kR K mg A F):Ok P w K mg 1 A.oU F.oU ["squares","x","y","letter"] JG:=λbase bb=>by
 refine T.oU.F.ok ZN (λvs H Q E h=> ?_) (λcdv Ar outer s H vs Q E hr h=> ?_)
 ·obtain⟨a,b,x,y,c,rfl,_⟩:=h
  rfl
 ·obtain⟨a,b,x,y,c,rfl,h,hb,⟨x0,x1,y0,y1⟩,hc,k⟩:=h
  refine⟨_,(aS (Wm (pv 3) (Wq (pv 0) (eL jR (eL vH (pv 2) (fF rfl T.vP)) (pv 1)) Hm))),?_⟩
  simp_arith [J9]
  refine⟨.inr ⟨by decide,by decide⟩,a,_,_,(x+15 * y).toNat,rfl,rfl,h,?_,?_⟩
  ·have hl:(pV b).length=225:=by unfold pV;rw[aA];exact hb.len
   rw[hl]
   exact Xt (by omega) (by omega)
  ·rw[Yh _ _ _ hc]
   exact k
theorem FR:bV ["self","laying","place","letter"] ["self","laying"] (defScope VY):=⟨rfl,rfl,rfl,by decide+kernel,rfl,by decide+kernel,by decide+kernel⟩
def Xo (b:List Nat)(x y d:Int)(wd:List Nat):List Nat:=oP (Zj x y d) (λi=>wd.getD i 0) b (bA wd.length)
def Vz (K:PySem.W.Frag)(CG C:Addr):Sp:=λvs H Q _=>∃(g dgx dw sq p dx aw ar:Addr) (ws:List (List Nat)) (b wd rk:List Nat) (x y d:Int),vs=[.ref g,.ref p]/\iK CG H g ws b dgx dw sq/\Ur K C H p x y d wd rk dx aw ar/\aw≠sq/\ar≠sq/\wd.length<=15/\(∀c∈wd,bI c=true)/\Fw x y d wd.length/\
 ∀H',mE sq H H'->iK CG H' g ws (Xo b x y d wd) dgx dw sq->Q .non H'
theorem Zu {K:PySem.W.Frag}{CG C:Addr}{H:Hp}{Q:VK}{E:XK}{g dgx dw sq p dx aw ar:Addr}{ws:List (List Nat)}{b wd rk:List Nat}{x y d:Int}(G:iK CG H g ws b dgx dw sq)(L:Ur K C H p x y d wd rk dx aw ar)(n1:aw≠sq)(n2:ar≠sq)(hn:wd.length<=15)(hw:∀c∈wd,bI c=true)(hon:Fw x y d wd.length)
  (k:∀H',mE sq H H'->iK CG H' g ws (Xo b x y d wd) dgx dw sq->Q .non H'):Vz K CG C [.ref g,.ref p] H Q E:=⟨g,dgx,dw,sq,p,dx,aw,ar,ws,b,wd,rk,x,y,d,rfl,G,L,n1,n2,hn,hw,hon,k⟩
theorem Hn (ix v:Nat->Nat)(b:List Nat)(i:Nat):oP ix v b (bA (i+1))=(oP ix v b (bA i)).set (ix i) (v i):=by
 unfold oP
 rw[pC,B3];rfl
theorem mE.seqL {K:PySem.W.Frag}{H H':Hp}{g a:Addr}{xs:List V}(e:mE g H H')(n:a≠g)(h:dX K H a xs):dX K H' a xs:=by
 rcases h with(h | ⟨q,h⟩) | h
 ·exact .inl (.inl (e _ _ h n))
 ·exact .inl (.inr ⟨q,e _ _ h n⟩)
 ·exact .inr h
theorem Iu (T:kR K mg A F):Ok P w K mg 2 A.uY F.uY ["self","laying"] (Vz K A.cD A.aW):=λbase bb=>by
 refine T.uY.F.ok FR (λvs H Q E h=> ?_) (λcdv Ar outer s H vs Q E hr h=> ?_)
 ·obtain⟨g,dgx,dw,sq,p,dx,aw,ar,ws,b,wd,rk,x,y,d,rfl,_⟩:=h
  rfl
 ·obtain⟨g,dgx,dw,sq,p,dx,aw,ar,ws,b,wd,rk,x,y,d,rfl,G,L,n1,n2,hn,hw,hon,k⟩:=h
  refine⟨_,(aS (tW eP rfl (Ec rfl T.HC (aB (bY (pv 1) rfl) aL)) (WG (n:=2) rfl (iS (dG (i:=2) FR.nd rfl (cB rfl)) (iS (dG (i:=3) FR.nd rfl (cB rfl)) wG))) (aS (sJ (oF T.oU (ZR T base bb) hr (aB (bY (pv 0) rfl) (aB (IL (pv 1) T.aW T.iP (oW T base bb) hr (aB (pv 2) aL)) (aB (IL (pv 1) T.aW T.iO (oV T base bb) hr (aB (pv 2) aL)) (aB (pv 3) aL))))))))),?_⟩
  have okI:∀i,i<=wd.length->BM (oP (Zj x y d) (λi=>wd.getD i 0) b (bA i)):=λi hi=>by
   refine⟨by rw[VL];exact G.ok.len,λc hc=> ?_⟩
   rcases VJ _ _ _ _ c hc with h | ⟨j,hj,e⟩
   ·exact G.ok.let_ c h
   ·right
    rw[e]
    have hlt:j < wd.length:=bW (bM.mp hj) hi
    refine hw _ ?_
    rw[aF,aE hlt]
    exact HF hlt
  have ng:g≠sq:=eK G.at_ G.sqs (by intro z;cases z)
  have nw:dw≠sq:=eK G.ws G.sqs (by intro z;cases z)
  have np:p≠sq:=eK L.at_ G.sqs (by intro z;cases z)
  refine cq (xs:=wd) (λc:Nat=>V.int c) aw (λR h=> ?_)
   (λi σ' H'=>i<=wd.length/\mE sq H H'/\H' sq=some (.lst (pV (oP (Zj x y d) (λi=>wd.getD i 0) b (bA i))))/\∃v2 v3,σ'=[some (.ref g),some (.ref p),v2,v3]) ⟨cA _,mE.refl _ _,G.sqs,none,none,rfl⟩ (λi σ' H' p=>p.2.1.seqL n1 L.w) ?_ ?_
  ·simp_arith [↓eY,L.at_,HO.ins.injEq,T.aW.cl,qM T,qL T,qN T,rR T,sQ T,rT,rS,rV,tE,tF,lU,lE]
   exact h
  ·rintro i c σ' H' T' hc ⟨hi,b1,hs,v2,v3,rfl⟩ hT
   have hlt:i < wd.length:=(bL.mp hc).1
   refine OF aK ?_
   have s1:aZ H' (L2.upd H' T' (.tup [.int (i:Nat),.int (c:Nat)])):=aZ.upd hT
   have g1:L2.upd H' T' (.tup [.int (i:Nat),.int (c:Nat)]) g=some (.ins A.cD dgx (XM dw sq)):=s1 _ _ (b1 _ _ G.at_ ng)
   have p1:L2.upd H' T' (.tup [.int (i:Nat),.int (c:Nat)]) p=some (.ins A.aW dx (GS x y d aw ar)):=s1 _ _ (b1 _ _ L.at_ np)
   have q1:=s1 _ _ hs
   generalize L2.upd H' T' (.tup [.int (i:Nat),.int (c:Nat)])=H1 at s1 g1 p1 q1 ⊢
   simp_arith [↓eY,p1,g1,T.cD.cl,BA T,BB T,GQ,GR,HO.ins.injEq,T.aW.cl,qM T,qL T,qN T,rR T,sQ T,rT,rS,rV,tE,tF,lU,lE]
   refine FA p1 λH2 s2=> ?_
   have p2:=s2 _ _ p1
   simp_arith [↓eY,p2,HO.ins.injEq,T.aW.cl,qM T,qL T,qN T,rR T,sQ T,rT,rS,rV,tE,tF,lU,lE]
   refine EZ p2 λH3 s3=> ?_
   simp_arith
   have s13:=(s1.trans s2).trans s3
   refine UT (s13 _ _ hs) (okI i hi) (hon i hlt) (hw c (aY hc)) ?_
   refine⟨by omega,λe o he hne=>by rw[aM hne];exact s13 _ _ (b1 _ _ he hne),?_,_,rfl⟩
   rw[aK,Hn]
   have e:wd.getD i 0=c:=by rw[aF,hc];rfl
   rw[e]
   rfl
  ·rintro σ' H' ⟨_,b1,hs,v2,v3,rfl⟩
   exact k _ b1 ⟨b1 _ _ G.at_ ng,b1 _ _ G.ws nw,hs,okI _ (aU _)⟩
theorem NC:bV ["self","laying","count"] ["self","laying"] (defScope SE):=⟨rfl,rfl,rfl,by decide+kernel,rfl,by decide+kernel,by decide+kernel⟩
def b9 (K:PySem.W.Frag)(CG C:Addr):Sp:=λvs H Q _=>∃(g dgx dw sq p dx aw ar:Addr) (ws:List (List Nat)) (b wd rk:List Nat) (x y d:Int),vs=[.ref g,.ref p]/\iK CG H g ws b dgx dw sq/\Ur K C H p x y d wd rk dx aw ar/\aw≠sq/\ar≠sq/\wd.length<=15/\rk.length<=7/\
 (gT ⟨ws,b⟩ x y d wd rk < 0->∀H',aZ H H'->Q (.int (gT ⟨ws,b⟩ x y d wd rk)) H')/\
 (¬gT ⟨ws,b⟩ x y d wd rk < 0->∀H',mE sq H H'->iK CG H' g ws (Yu b (dR x y d wd)) dgx dw sq->Q (.int (gT ⟨ws,b⟩ x y d wd rk)) H')
theorem Tc {s:pN}{x y d:Int}{wd rk:List Nat}(h:¬gT s x y d wd rk < 0):gQ x y d wd rk=true/\lV s.board x y d wd=true:=by
 unfold gT at h
 by_cases h1:gQ x y d wd rk=false
 ·rw[if_pos h1] at h;exact absurd (by decide) h
 ·rw[if_neg h1] at h
  refine⟨Mr (by cases z:gQ x y d wd rk with | true=>rfl | false=>exact absurd z h1),?_⟩
  unfold rC at h
  by_cases h2:lV s.board x y d wd=false
  ·rw[if_pos h2] at h;exact absurd (by decide) h
  ·cases z:lV s.board x y d wd with | true=>rfl | false=>exact absurd z h2
theorem Ep (T:kR K mg A F):Ok P w K mg 10 A.rP F.rP ["self","laying"] (b9 K A.cD A.aW):=λbase bb=>by
 refine T.rP.F.ok NC (λvs H Q E h=> ?_) (λcdv Ar outer s H vs Q E hr h=> ?_)
 ·obtain⟨g,dgx,dw,sq,p,dx,aw,ar,ws,b,wd,rk,x,y,d,rfl,_⟩:=h
  rfl
 ·obtain⟨g,dgx,dw,sq,p,dx,aw,ar,ws,b,wd,rk,x,y,d,rfl,G,L,n1,n2,hn,hk,k1,k2⟩:=h
  refine⟨_,(aO (dJ (i:=2) NC.nd rfl (cB rfl) (IL (pv 0) T.cD T.lT (zP T base bb) hr (aB (pv 1) aL))) (aO (gC (eB Pp (pv 2) dS (eZ _)) (aS (sJ (IL (pv 0) T.cD T.uY (Iu T base bb) hr (aB (pv 1) aL)))) dN) (aS (bU (pv 2))))),?_⟩
  simp_arith only[G.at_,HO.ins.injEq]
  refine⟨rfl,PM G L hn hk λH1 s1=> ?_⟩
  have G1:=G.same s1
  refine OE (!decide (gT ⟨ws,b⟩ x y d wd rk < 0)) (λR h=> ?_) (λc=> ?_) (λc=> ?_)
  ·simp_arith
   have e:decide (0<=gT ⟨ws,b⟩ x y d wd rk)= !decide (gT ⟨ws,b⟩ x y d wd rk < 0):=by
    by_cases z:gT ⟨ws,b⟩ x y d wd rk < 0
    ·rw[decide_eq_true z,decide_eq_false (by omega)];rfl
    ·rw[decide_eq_false z,decide_eq_true (by omega)];rfl
   rw[e]
   exact h
  ·have hneg:¬gT ⟨ws,b⟩ x y d wd rk < 0:=of_decide_eq_false (Pr c)
   obtain⟨hp,hf⟩:=Tc hneg
   obtain⟨hon,hd,hn1,hrk,hwl⟩:=Ig hp
   have hf':=hf
   unfold lV at hf'
   simp only[bH] at hf'
   have hon2:Fw x y d wd.length:=Eg hd hon hf'.1.1.1.2
   simp_arith [G1.at_,HO.ins.injEq]
   refine⟨rfl,Zu G1 (L.same s1) n1 n2 hn hwl hon2 λH2 b2 G2=> ?_⟩
   refine k2 hneg H2 (λe o he hne=>b2 _ _ (s1 _ _ he) hne) ?_
   rw[D7 G.ok hd hon2 λi hi=> ?_]
   ·exact G2
   ·have:=cN.mp hf'.1.2 i (bM.mpr hi)
    simpa using this
  ·simp_arith
   exact k1 (of_decide_eq_true (Mr c)) _ s1
theorem LA:bV ["self"] ["self"] (defScope yV):=⟨rfl,rfl,rfl,by decide+kernel,rfl,by decide+kernel,by decide+kernel⟩
def ZL (CG:Addr):Sp:=λvs H Q _=>∃(g dgx dw sq:Addr) (ws:List (List Nat)) (b:List Nat),vs=[.ref g]/\iK CG H g ws b dgx dw sq/\∀H' q,aZ H H'->H q=none->H' q=some (.lst (.int 0::pV b))->Q (.ref q) H'
theorem LL (T:kR K mg A F):Ok P w K mg 1 A.iR F.iR ["self"] (ZL A.cD):=λbase bb=>by
 refine T.iR.F.ok LA (λvs H Q E h=> ?_) (λcdv Ar outer s H vs Q E hr h=> ?_)
 ·obtain⟨g,dgx,dw,sq,ws,b,rfl,_⟩:=h
  rfl
 ·obtain⟨g,dgx,dw,sq,ws,b,rfl,G,k⟩:=h
  refine⟨_,(aS (bU (eL GE (gJ (aB dS aL)) (bY (pv 0) rfl)))),?_⟩
  simp_arith [↓rQ]
  refine⟨by rw[aX];decide,λe1 he1=> ?_⟩
  have s1:aZ H (L2.upd H e1 (.lst [.int 0])):=aZ.upd he1
  have G1:=G.same s1
  simp_arith [↓eY,G1.at_,HO.ins.injEq,T.cD.cl,BA T,BB T,GQ,GR]
  refine⟨e1,sq,_,_,rfl,rfl,aK,G1.sqs,?_,λe2 he2=>k _ _ (s1.trans (aZ.upd he2)) (s1.free he2) aK⟩
  unfold pV
  rw[aA,G.ok.len,aX]
  decide
end
def Sz:Str:=("weightiest_first":Str)++(".<locals>.":Str)++("<lambda>":Str)
def Ta:Pos:=⟨178,28,178,72⟩
abbrev Tk (P:Addr):Hp->Hp->Prop:=Sm P Sz Ta
abbrev RB (H:Hp)(P:Addr):Prop:=vX H P Sz Ta
theorem Tb.sm {P:Addr}{q:Str}{pos:Pos}{H H':Hp}(t:Tb P q pos H H')(h:vX H P q pos):Sm P q pos H H':=by
 obtain⟨ps,h1,_⟩:=h
 refine⟨λ{b o} e n=>t.1 b o e (λz=> ?_),λ_=>t.2,λ{b} e=> ?_⟩
 ·rw[z,h1] at e;cases e;cases n
 ·cases z:H b with
  | none=>rfl
  | some o=>
   by_cases hb:b=P
   ·obtain⟨ps',h2,_⟩:=t.2
    rw[hb,h2] at e;cases e
   ·rw[t.1 b o z hb] at e;cases e
def Vm (b:List Nat)(d:Int)(f:Int)(c:fU):Int:=Xi c * (f+if tS b c.1 c.2 d=true then Gd c else 0)
section
variable {P:bS}{w:cY}{K:PySem.W.Frag}{mg:Str->Option aC}{A:Ad}{F:Fd}
theorem NA:bV ["spot","fold","crossing_fold"] ["spot","fold"] (defScope RV):=⟨rfl,rfl,rfl,by decide+kernel,rfl,by decide+kernel,by decide+kernel⟩
def MQ (C:Addr):Sp:=FP λvs H r=>∃(p:Addr) (b:List Nat) (d f:Int) (c:fU),vs=[.ref p,.int f]/\KI C H b d p c/\r=.int (Vm b d f c)
theorem ZD {C:Addr}{H:Hp}{Q:VK}{E:XK}{p:Addr}{b:List Nat}{d f:Int}{c:fU}(S:KI C H b d p c)(k:∀H',aZ H H'->Q (.int (Vm b d f c)) H'):MQ C [.ref p,.int f] H Q E:=⟨_,⟨p,b,d,f,c,rfl,S,rfl⟩,k⟩
theorem Ei (T:kR K mg A F):Ok P w K mg 1 A.nR F.nR ["spot","fold"] (MQ A.aV):=λbase bb=>by
 refine T.nR.F.ok NA (λvs H Q E h=> ?_) (λcdv Ar outer s H vs Q E hr h=> ?_)
 ·obtain⟨r,⟨p,b,d,f,c,rfl,_⟩,_⟩:=h
  rfl
 ·obtain⟨r,⟨p,b,d,f,c,rfl,⟨dx,a1,a2,S⟩,rfl⟩,k⟩:=h
  refine⟨_,(aO (dJ (i:=2) NA.nd rfl (cB rfl) (kP (gI (bY (pv 0) rfl)) (bY (pv 0) rfl) dS)) (aS (bU (eL vH (bY (pv 0) rfl) (eL jR (pv 1) (pv 2)))))),?_⟩
  have k0:=k _ (aZ.refl H)
  have hlf:=Xh c.1 c.2
  unfold Vm Xi Gd at k0
  simp_arith [↓eY,S.at_,HO.ins.injEq,T.aV.cl,(mF T).1,(mF T).2.1,(mF T).2.2.1,(mF T).2.2.2.1,(mF T).2.2.2.2.1,(mF T).2.2.2.2.2.1,(mF T).2.2.2.2.2.2.1,(mF T).2.2.2.2.2.2.2,KA,GM,GO,DU,GN,JZ,KB,JY,DT]
  split
  ·rename_i h
   rw[if_pos h] at k0
   exact⟨.inl ⟨by omega,by omega⟩,k0⟩
  ·rename_i h
   rw[if_neg h] at k0
   exact⟨.inl ⟨by omega,by omega⟩,k0⟩
def JT (b:List Nat)(cs:List fU):List Nat:=(bA cs.length).filter λi=>lR b (cs.getD i (0,0))
def kU (b:List Nat)(d:Int)(cs:List fU)(ns:List Nat):Prop:=OS (λi=> -Vm b d (oZ b cs) (cs.getD i.toNat (0,0))) ((JT b cs).map cF) (ns.map cF)
theorem BP {α:Type}(l:List α)(a:α):l.zipIdx=(bA l.length).map λi=>(l.getD i a,i):=by
 apply EB
 intro i
 rw[Yz]
 by_cases h:i < l.length
 ·rw[aP,iU h,aE h]
  show some (l[i],0+i)=some (l.getD i a,i)
  rw[aF,aE h,YZ];rfl
 ·rw[eD (by omega),eD (by rw[aA,cR];omega)]
  rfl
theorem AR {α β:Type}{f:α->β}:∀{xs:List α} {ys:List β},Paired (λx y=>y=f x) xs ys->ys=xs.map f
 | _,_,.nil=>rfl
 | _,_,.cons h t=>by rw[h,AR t];rfl
theorem Mw (zs:List (Addr×fU)):(bA zs.length).map ((λz:(Addr×fU)×Nat=>V.ref z.1.1) ∘ λi=>(zs.getD i (0,(0,0)),i))=zs.map λz=>V.ref z.1:=by
 apply EB
 intro i
 by_cases h:i < zs.length
 ·rw[aP,iU h,aP,aE h]
  show some (V.ref (zs.getD i (0,(0,0))).1)=_
  rw[aF,aE h];rfl
 ·rw[eD (by rw[aA,cR];omega),eD (by rw[aA];omega)]
theorem RO (zs:List (Addr×fU)):(zs.zipIdx.map λz=>V.ref z.1.1)=zs.map λz=>V.ref z.1:=by
 rw[BP zs (0,(0,0)),bR]
 exact Mw zs
theorem Aj {α:Type}{l:List α}{i:Nat}{z:α×Nat}(h:l.zipIdx[i]? =some z):l[i]? =some z.1/\z.2=i:=by
 rw[Yz] at h
 cases e:l[i]? with
 | none=>rw[e] at h;cases h
 | some x=>rw[e] at h;cases h;exact⟨rfl,by simp⟩
theorem f9 (b:List Nat)(zs:List (Addr×fU)):(zs.zipIdx.filter λz=>lR b z.1.2).map (λz=>z.2)=JT b (zs.map λz=>z.2):=by
 rw[BP zs (0,(0,0)),kM,bR]
 unfold JT
 rw[aA]
 have e1:((λz:(Addr×fU)×Nat=>z.2) ∘ λi=>(zs.getD i (0,(0,0)),i))=id:=rfl
 rw[e1,List.map_id]
 apply mN
 intro i hi
 show lR b (zs.getD i (0,(0,0))).2=lR b ((zs.map λz=>z.2).getD i (0,0))
 congr 1
 rw[aF,aF,aP]
 cases zs[i]? <;> rfl
abbrev vZ:List Str:=["spots","fold","laid","place","spot"]
theorem jT:bV ["spots","fold","laid","place","spot"] ["spots"] (defScope fW):=⟨rfl,rfl,rfl,by decide+kernel,rfl,by decide+kernel,by decide+kernel⟩
def vT (K:PySem.W.Frag)(C P:Addr):Sp:=λvs H Q _=>∃(a:Addr) (b:List Nat) (d:Int) (zs:List (Addr×fU)),vs=[.ref a]/\oG K C H a b d zs/\zs.length<=15/\RB H P/\
 ∀H' q ns,Tk P H H'->H q=none->H' q=some (.lst (cT ns))->kU b d (zs.map λz=>z.2) ns->Q (.ref q) H'
theorem FB {K:PySem.W.Frag}{C P:Addr}{H:Hp}{Q:VK}{E:XK}{a:Addr}{b:List Nat}{d:Int}{zs:List (Addr×fU)}(S:oG K C H a b d zs)(hn:zs.length<=15)(t:RB H P)
  (k:∀H' q ns,Tk P H H'->H q=none->H' q=some (.lst (cT ns))->kU b d (zs.map λz=>z.2) ns->Q (.ref q) H'):vT K C P [.ref a] H Q E:=⟨a,b,d,zs,rfl,S,hn,t,k⟩
theorem F0 {ns:List Int}(h:∀n∈ns,0<=n):ns=(ns.map P8).map cF:=by
 rw[bR]
 conv=>lhs;rw[<-List.map_id ns]
 apply dD
 intro n hn
 have:=h n hn
 show n=cF n.toNat
 simp;omega
theorem Sy:Rm vZ (defScope fW) { kind:=.function,names:=[("place",.local),("fold",.free),("spots",.free),("weight_of",.globalImplicit)],isGenerator:=false,isCoroutine:=false } "place" "spots" "fold" 0 1:=
 ⟨rfl,rfl,rfl,by decide,rfl,rfl,rfl,by decide+kernel,rfl,rfl⟩
theorem IM (T:kR K mg A F):Ok P w K mg 3 A.eF F.eF ["spots"] (vT K A.aV A.tabP):=λbase bb=>by
 refine O7 T.eF.F jT (λvs H Q E h=> ?_) (λcdv Ar outer s H vs Q E hcd hr h=> ?_)
 ·obtain⟨a,b,d,zs,rfl,_⟩:=h
  rfl
 ·obtain⟨a,b,d,zs,rfl,S,hn,t,k⟩:=h
  obtain⟨c,hc,hC⟩:=T.lam.code
  have hcode:cdv=.ref c:=hcd.symm.trans hc
  have hB:=bb
  have lamS:=Sy
  have hroom:(Ar.deeper (envOfC "weightiest_first" (defScope fW) s.heap.objs.size A.eF cdv)).depth < recursionLimit:=by have:=hr.dp;omega
  have hrL:∀env:Env,oJ 1 ((Ar.deeper (envOfC "weightiest_first" (defScope fW) s.heap.objs.size A.eF cdv)).in1.in1.deeper env):=λenv=>
   ⟨hr.hd,by have:=hr.dp;show(Ar.deeper (envOfC "weightiest_first" (defScope fW) s.heap.objs.size A.eF cdv)).depth+1+3 * 1+5 < _;omega,by have:=hr.un;show(Ar.deeper (envOfC "weightiest_first" (defScope fW) s.heap.objs.size A.eF cdv)).units+1+1+3+16 * 1+200 < _;omega⟩
  refine⟨_,(aO (dJ (i:=1) jT.nd rfl (N8 rfl) (oF T.iZ (AU T base bb) hr (aB (pv 0) aL))) (aO (xK (i:=2) rfl jT.nd rfl rfl (BU rfl rfl rfl rfl) (Ec rfl T.HC (aB (pv 0) aL)) (fN (N:=vZ) (sc:=defScope fW) (own:=[("place",3),("spot",4)]) (by decide+kernel)) (λ_ _ _ _ _=>(NK (K:=K) (n:=2) rfl rfl (iS (dG (i:=3) jT.nd rfl (cB rfl)) (iS (dG (i:=4) jT.nd rfl (cB rfl)) wG)))) (λ_ _ _ _ _=>sI (gI (sM (K:=K) rfl (pv 4) rfl))) (λ_ _ _ _ _=>(pv 3))) (aS (bU (Mi rfl T.Kf (aB (pv 2) aL) hcode hC hB lamS rfl hroom (λ_ _ _ _ _=>(yW sC (Pn (Ei T base bb) (hrL _) rfl T.nR.mg T.nR.F.kp T.nR.b .nil WH (aB (uM (Xs (K:=K) rfl) (pv 1) (pv 0) (λ_ _=>rfl)) (aB (pv 2) aL))))) (λ_ _ _ _ _=>rfl)))))),?_⟩
  simp_arith
  refine yI S hn λH1 s1=> ?_
  have S1:=S.same s1
  have t1:=t.same s1
  simp_arith
  refine lcE (xs:=zs.zipIdx) cS (λz=>V.ref z.1.1) (λz=>lR b z.1.2) (λz v H'=>v=.int (z.2:Nat)) a (λR h=>h) (by rw[RO];exact S1.at_) (by rw[t9];exact KS hn) ?_ ?_
  ·intro D hD i z H' T' hz s2 hT acc Nx hacc hlt ad
   obtain⟨hz1,hz2⟩:=Aj hz
   refine OF aK ?_
   have s3:aZ H' (L2.upd H' T' (.tup [.int (i:Nat),.ref z.1.1])):=aZ.upd hT
   obtain⟨dx,a1,a2,sp⟩:=S1.each z.1 (aY hz1)
   have sp':=sp.same (s2.trans s3)
   simp_arith [↓eY,sp'.at_,HO.ins.injEq,T.aV.cl,(mF T).1,(mF T).2.1,(mF T).2.2.1,(mF T).2.2.2.1,(mF T).2.2.2.2.1,(mF T).2.2.2.2.2.1,(mF T).2.2.2.2.2.2.1,(mF T).2.2.2.2.2.2.2,KA,GM,GO,DU,GN,JZ,KB,JY,DT]
   split
   ·rename_i h
    exact ad.add h hacc hlt cS s3 λH5 _=>by rw[hz2]
   ·rename_i h
    exact ad.no (by cases e:lR b z.1.2 with | true=>exact absurd e h | false=>rfl) _ s3
  ·intro D H2 ys hD s2 hy hp
   have hys:=AR hp
   have hys2:ys=((JT b (zs.map λz=>z.2)).map cF).map V.int:=by
    rw[hys, <-f9,bR,bR];rfl
   have t2:=t1.same s2
   have S2:=S1.same s2
   have hpl:(JT b (zs.map λz=>z.2)).length<=15:=by
    unfold JT
    refine cV (jI _ _) ?_
    rw[cR,aA];exact hn
   simp_arith
   unfold Vr
   have hDP:D≠A.tabP:=by
    obtain⟨ps,h1,_⟩:=t2
    exact eK hy h1 (by intro z;cases z)
   refine⟨D,(JT b (zs.map λz=>z.2)).map cF,λi=> -Vm b d (oZ b (zs.map λz=>z.2)) ((zs.map λz=>z.2).getD i.toNat (0,0)),_,_,rfl,by rw[<-hys2];exact dX.of hy,by rw[aA];exact KS hpl,t2,rfl,rfl,hDP,?_,?_⟩
   ·intro n hn' H' tb
    obtain⟨i,hi,rfl⟩:=bE.mp hn'
    have sm:=tb.sm t2
    have S3:=S2.rel (BZ ..) sm
    have hil:i < zs.length:=by
     unfold JT at hi
     have:=(bO.mp hi).1
     rw[bM,aA] at this
     exact this
    have hz:=aE hil
    simp_arith
    refine⟨_,_,_,_,rfl,rfl,S3.at_,uO (j:=i) rfl (by rw[aP,hz];rfl),ZD (S3.each _ (aY hz)) λH4 s4=>⟨?_,s4⟩⟩
    congr 2
    show zs[i].2=(zs.map λz=>z.2).getD i (0,0)
    rw[aF,aP,hz];rfl
   ·intro ns' H' D' sb tb hD'
    have sm:=tb.sm t2
    have hnn:∀n∈ns',0<=n:=λn hn'=>by
     obtain⟨i,_,rfl⟩:=bE.mp (sb.1.mem_iff.mp hn')
     exact Int.natCast_nonneg i
    have e:=F0 hnn
    refine k _ D' (ns'.map P8) ?_ ?_ ?_ ?_
    ·exact(Sm.same s1).trans ((Sm.same s2).trans (sm.trans (Sm.same (aZ.upd hD'))))
    ·exact s1.free (s2.free (sm.free hD'))
    ·rw[aK,sT, <-e]
    ·unfold kU
     rw[<-e]
     exact sb
end
theorem z7 {α:Type}{K:PySem.W.Frag}{tl:TE}{g:TG}{tb:TS}{D:DA}{σ:L2.St}{H:Hp}(e:α->V)(C:Addr->Hp->List α->Prop)(htl:∀R:VK,(∀a H1 xs,C a H1 xs->R (.ref a) H1)->tl σ H R)(Pv:Addr->List α->Nat->L2.St->Hp->Prop)
  (h0:∀a H1 xs,C a H1 xs->Pv a xs 0 σ H1) (hl:∀a xs i σ' H',Pv a xs i σ' H'->dX K H' a (xs.map e))
  (hs:∀a xs (i:Nat) x σ' H',xs[i]? =some x->Pv a xs i σ' H'->g (e x) σ' H' λσ2 H2=>tb { D with nx:=Pv a xs (i+1),ct:=Pv a xs (i+1),bk:=D.nx } σ2 H2) (hd:∀a xs σ' H',Pv a xs xs.length σ' H'->D.nx σ' H'):ZJ (Cc K tl) g tb D σ H:=by
 refine htl _ λa H1 xs c=>⟨a,rfl,⟨_,hl a xs 0 σ H1 (h0 a H1 xs c)⟩,Jn (K:=K) (a:=a) (xs:=xs.map e) (Pv a xs) (h0 a H1 xs c) (λi σ' H' _ p=>hl a xs i σ' H' p) (λi x σ' H' hx p=> ?_) (λσ' H' p=>hd a xs σ' H' (by rw[aA] at p;exact p))⟩
 rw[aP] at hx
 obtain⟨z,hz,rfl⟩:=cK.mp hx
 exact hs a xs i z σ' H' hz p
def qW (b:List Nat)(cs:List fU)(w:List Nat):List Nat:=(cs.zip w).map λz=>if lR b z.1=true then z.2 else aH b z.1.1 z.1.2
def sD:List Nat->List Nat->List Nat->List Nat
 | _,t,[]=>t
 | left,t,i::ns=>if left.contains (t.getD i 0)=true then sD (left.erase (t.getD i 0)) t ns else sD left (t.set i (t.getD i 0+32)) ns
theorem qF (left t:List Nat)(i:Nat)(ns:List Nat):sD left t (i::ns)=if left.contains (t.getD i 0)=true then sD (left.erase (t.getD i 0)) t ns else sD left (t.set i (t.getD i 0+32)) ns:=rfl
def EK (b:List Nat)(d:Int)(cs:List fU)(w rk t:List Nat):Prop:=if rk.contains 63=true then∃ns,kU b d cs ns/\t=sD rk (qW b cs w) ns else t=qW b cs w
theorem wX {b:List Nat}{cs:List fU}{w:List Nat}(h:cs.length=w.length):(qW b cs w).length=w.length:=by
 unfold qW
 rw[aA,sZ];omega
theorem Yc {b:List Nat}{d:Int}{cs:List fU}{ns:List Nat}(h:kU b d cs ns){i:Nat}(hi:i∈ns):i < cs.length:=by
 have:(i:Int)∈(JT b cs).map cF:=h.1.mem_iff.mp (bE.mpr ⟨i,hi,rfl⟩)
 obtain⟨j,hj,e⟩:=bE.mp this
 have e':j=i:=oC e
 rw[<-e']
 unfold JT at hj
 exact bM.mp (bO.mp hj).1
section
variable {P:bS}{w:cY}{K:PySem.W.Frag}{mg:Str->Option aC}{A:Ad}{F:Fd}
abbrev OU:List Str:=["spots","word","rack","told","left","place","spot","letter"]
theorem jP:bV ["spots","word","rack","told","left","place","spot","letter"] ["spots","word","rack"] (defScope tV):=⟨rfl,rfl,rfl,by decide+kernel,rfl,by decide+kernel,by decide+kernel⟩
def yO (K:PySem.W.Frag)(C P:Addr):Sp:=λvs H Q _=>∃(a aw ar:Addr) (b wd rk:List Nat) (d:Int) (zs:List (Addr×fU)),vs=[.ref a,.ref aw,.ref ar]/\oG K C H a b d zs/\KH K H aw (cT wd)/\dX K H ar (cT rk)/\BM b/\zs.length=wd.length/\wd.length<=15/\rk.length<=7/\RB H P/\
 ∀H' q t,Tk P H H'->H q=none->H' q=some (.lst (cT t))->EK b d (zs.map λz=>z.2) wd rk t->Q (.ref q) H'
theorem KQ {K:PySem.W.Frag}{C P:Addr}{H:Hp}{Q:VK}{E:XK}{a aw ar:Addr}{b wd rk:List Nat}{d:Int}{zs:List (Addr×fU)}(S:oG K C H a b d zs)(hw:KH K H aw (cT wd))(hk:dX K H ar (cT rk))(hb:BM b)(hl:zs.length=wd.length)(hn:wd.length<=15)(hn2:rk.length<=7)(t:RB H P)
  (k:∀H' q t,Tk P H H'->H q=none->H' q=some (.lst (cT t))->EK b d (zs.map λz=>z.2) wd rk t->Q (.ref q) H'):yO K C P [.ref a,.ref aw,.ref ar] H Q E:=⟨a,aw,ar,b,wd,rk,d,zs,rfl,S,hw,hk,hb,hl,hn,hn2,t,k⟩
theorem Yg (t:List Nat)(i c:Nat):(cT t).set i (.int (c:Nat))=cT (t.set i c):=by
 unfold cT
 rw[fb]
theorem NO (T:kR K mg A F):Ok P w K mg 4 A.jF F.jF ["spots","word","rack"] (yO K A.aV A.tabP):=λbase bb=>by
 refine T.jF.F.ok jP (λvs H Q E h=> ?_) (λcdv Ar outer s H vs Q E hr h=> ?_)
 ·obtain⟨a,aw,ar,b,wd,rk,d,zs,rfl,_⟩:=h
  rfl
 ·obtain⟨a,aw,ar,b,wd,rk,d,zs,rfl,S,hw,hk,hb,hl,hn,hn2,tb,k⟩:=h
  refine⟨_,(aO (xK (i:=3) rfl jP.nd rfl rfl (BU rfl rfl rfl rfl) (i0 rfl T.A0 (aB (pv 0) (aB (pv 1) aL))) (fN (N:=OU) (sc:=defScope tV) (own:=[("spot",6),("letter",7)]) (by decide+kernel)) (λ_ _ _ _ _=>(NK (K:=K) (n:=2) rfl rfl (iS (dG (i:=6) jP.nd rfl (cB rfl)) (iS (dG (i:=7) jP.nd rfl (cB rfl)) wG)))) (λ_ _ _ _ _=>oE) (λ_ _ _ _ _=>(kP (gI (sM (K:=K) rfl (pv 6) rfl)) (pv 7) (sM (K:=K) rfl (pv 6) rfl)))) (aO (gC (eB CC (fF rfl T.ON) (pv 2) (by with_unfolding_all rfl)) (aS (bU (pv 3))) dN) (aO (dJ (i:=4) jP.nd rfl (cB rfl) (HS OL (by rfl) T.Nr boot_list (aB (pv 2) aL))) (aO (tW eP rfl (iY (oF T.eF (IM T base bb) hr (aB (pv 0) aL))) (dG (i:=5) jP.nd rfl (cB rfl)) (aS (gC (eB HV (uM qE (pv 3) (pv 5) (λ_ _=>rfl)) (pv 4) (by with_unfolding_all rfl)) (aS (sJ (JU PySem.F.plainAttrs_list PySem.F.slot_list_remove PySem.F.type_list_remove Bq (pv 4) (aB (uM qE (pv 3) (pv 5) (λ_ _=>rfl)) aL)))) (aS (Wm (oF T.uH (Ir T base bb) hr (aB (uM qE (pv 3) (pv 5) (λ_ _=>rfl)) aL)) (Wq (pv 3) (pv 5) Hm)))))) (aS (bU (pv 3))))))),?_⟩
  simp_arith only
  refine bu (xs:=zs) (zs:=wd) cS (λz=>V.ref z.1) (λc:Nat=>V.int c) (λ_=>true) (λz v H'=>v=.int ((if lR b z.1.2=true then z.2 else aH b z.1.2.1 z.1.2.2:Nat):Int)) a aw (λR h=>h) S.at_ hw (KS (by omega)) hl ?_ ?_
  ·intro D hD i z c H' T' hz hc s2 hT acc Nx hacc hlt ad
   refine OF aK ?_
   have s3:aZ H' (L2.upd H' T' (.tup [.ref z.1,.int (c:Nat)])):=aZ.upd hT
   obtain⟨dx,a1,a2,sp⟩:=S.each z (aY hz)
   have sp':=sp.same (s2.trans s3)
   simp_arith [↓eY,sp'.at_,HO.ins.injEq,T.aV.cl,(mF T).1,(mF T).2.1,(mF T).2.2.1,(mF T).2.2.2.1,(mF T).2.2.2.2.1,(mF T).2.2.2.2.2.1,(mF T).2.2.2.2.2.2.1,(mF T).2.2.2.2.2.2.2,KA,GM,GO,DU,GN,JZ,KB,JY,DT]
   split
   ·rename_i h
    exact ad.add rfl hacc hlt cS s3 λH5 _=>by
     show V.int _=V.int _
     rw[if_pos (show lR b z.2=true from h)]
   ·rename_i h
    exact ad.add rfl hacc hlt cS s3 λH5 _=>by
     show V.int _=V.int _
     rw[if_neg (show¬lR b z.2=true from h)]
     have h0:¬aH b z.2.1 z.2.2=0:=λe=>h (by rw[e];rfl)
     unfold sq
     rw[if_neg h0]
  ·intro q H1 ys hq s1 hy hp
   rw[tZ] at hp
   have hys:ys=cT (qW b (zs.map λz=>z.2) wd):=by
    rw[AR hp]
    unfold cT qW
    rw[B2,bR,bR]
    rfl
   rw[hys] at hy
   have hk1:=s1.seq hk
   have t1:=tb.same s1
   refine OE (!rk.contains 63) (λR h=> ?_) (λc=> ?_) (λc=> ?_)
   ·simp_arith
    refine⟨ar,_,rfl,.inl hk1,rfl,sU _,Kh ?_⟩
    rw[show G9 (.int 63) (cT rk)=rk.contains 63 from GV (c:=63)]
    simpa using h
   ·simp_arith
    refine k _ q _ (Sm.same s1) hq hy ?_
    unfold EK
    rw[if_neg (by rw[Pr c];simp)]
   ·have c':rk.contains 63=true:=Mr c
    have hlen:(zs.map λz=>z.2).length=wd.length:=by rw[aA];exact hl
    have h0:=wX (b:=b) hlen
    simp_arith only
    refine⟨_,.inl hk1,λl hll=> ?_⟩
    have s2:aZ H1 (L2.upd H1 l (.lst (cT rk))):=aZ.upd hll
    have nql:q≠l:=bJ hy hll
    have S2:=(S.same s1).same s2
    have t2:=t1.same s2
    refine z7 (α:=Nat) (λi:Nat=>V.int i) (λD H2 ns=>Tk A.tabP H H2/\H2 l=some (.lst (cT rk))/\H2 q=some (.lst (cT (qW b (zs.map λz=>z.2) wd)))/\D≠l/\D≠q/\H2 D=some (.lst (cT ns))/\kU b d (zs.map λz=>z.2) ns) (λR h=> ?_)
     (λD ns i σ' H'=>∃(left t:List Nat) (v5 v6 v7:Option V),σ'=[some (.ref a),some (.ref aw),some (.ref ar),some (.ref q),some (.ref l),v5,v6,v7]/\Tk A.tabP H H'/\H' l=some (.lst (cT left))/\H' q=some (.lst (cT t))/\D≠l/\D≠q/\H' D=some (.lst (cT ns))/\kU b d (zs.map λz=>z.2) ns/\t.length=wd.length/\sD rk (qW b (zs.map λz=>z.2) wd) ns=sD left t (ns.drop i)) ?_ ?_ ?_ ?_
    ·simp_arith
     refine FB S2 (by omega) t2 λH3 D ns sm hD hD' hv=>h D H3 ns ⟨(Sm.same (s1.trans s2)).trans sm,sm.k aK rfl,sm.k (s2 _ _ hy) rfl,(λz=>by rw[z,aK] at hD;cases hD),(λz=>by rw[z,s2 _ _ hy] at hD;cases hD),hD',hv⟩
    ·rintro D H2 ns ⟨g1,g2,g3,g4,g5,g6,g7⟩
     exact⟨rk,_,none,none,none,rfl,g1,g2,g3,g4,g5,g6,g7,h0,rfl⟩
    ·rintro D ns i σ' H' ⟨left,t,_,_,_,_,_,_,_,_,_,g6,_⟩
     exact dX.of g6
    ·rintro D ns i z σ' H' hz ⟨left,t,v5,v6,v7,rfl,g1,g2,g3,g4,g5,g6,g7,g8,g9⟩
     have hzl:z < t.length:=by rw[g8, <-hlen];exact Yc g7 (aY hz)
     have hd:ns.drop i=z::ns.drop (i+1):=by
      obtain⟨h1,h2⟩:=bL.mp hz
      rw[rL h1,h2]
     rw[hd,qF] at g9
     simp_arith only
     refine cc (left.contains (t.getD z 0)) (λR h=> ?_) (λc=> ?_) (λc=> ?_)
     ·simp_arith
      refine⟨_,_,_,_,rfl,rfl,dX.of g3,uO (j:=z) rfl (QR hzl),l,_,rfl,.inl (dX.of g2),rfl,sU _,Kh ?_⟩
      rw[GV]
      simpa using h
     ·rw[if_pos c] at g9
      simp_arith
      refine⟨.inl ⟨rfl,_,dX.of g2⟩,_,_,_,_,rfl,rfl,dX.of g3,uO (j:=z) rfl (QR hzl),l,left.map cF,_,rfl,rfl,by rw[<-sT];exact g2,bE.mpr ⟨_,aR.mp c,rfl⟩,?_⟩
      rw[Cg]
      refine⟨g1.put (s1.free hll) g2,_,aK,t,by rw[aM nql];exact g3,g4,g5,by rw[aM g4];exact g6,g7,g8,g9⟩
     ·rw[if_neg (by rw[c];simp)] at g9
      simp_arith [J9]
      refine⟨_,_,_,_,rfl,rfl,dX.of g3,uO (j:=z) rfl (QR hzl),_,⟨_,rfl,rfl⟩,λH3 s3=>⟨q,_,_,z,rfl,rfl,s3 _ _ g3,Xt rfl (by rw[fX];exact hzl),?_⟩⟩
      have ec:((t.getD z 0:Nat):Int)+32=((t.getD z 0+32:Nat):Int):=by omega
      rw[ec,Yg]
      refine⟨(g1.trans (Sm.same s3)).put hq (s3 _ _ g3),left,by rw[aM (fE nql)];exact s3 _ _ g2,_,aK,g4,g5,by rw[aM g5];exact s3 _ _ g6,g7,by rw[dO];exact g8,g9⟩
    ·rintro D ns σ' H' ⟨left,t,v5,v6,v7,rfl,g1,g2,g3,g4,g5,g6,g7,g8,g9⟩
     simp_arith
     refine k _ q t g1 hq g3 ?_
     unfold EK
     rw[if_pos c']
     rw[HH] at g9
     exact⟨ns,g7,g9.symm⟩
end
def bB (m d i:Int):fU:=bQ (m * d) (m * (1 - d)) d i
def zQ (m d:Int):List fU:=dB (m * d) (m * (1 - d)) d 15
def fM (b:List Nat)(m d:Int):List Nat:=if(b.all λc=>c==0)=true then(if m=7 then[7] else[]) else(bA 15).filter λ(i:Nat)=> !lR b (bB m d i) || tS b (bB m d i).1 (bB m d i).2 d
def freeC (b:List Nat)(m d i:Int):Bool:= !(decide (0<=i)&&decide (i < 15)) || lR b (bB m d i)
theorem j8 {m d:Int}(hm:0<=m/\m < 15)(hd:d=0\/d=1):Fw (m * d) (m * (1 - d)) d 15:=by
 intro i hi
 unfold bQ
 rcases hd with rfl | rfl <;> simp <;> omega
theorem Bw {m d:Int}{i:Nat}(h:i < 15):(zQ m d)[i]? =some (bB m d i):=by
 unfold zQ dB
 rw[aP,iU h];rfl
theorem Vp (b:List Nat)(m d:Int):(fM b m d).length<=15:=by
 unfold fM
 split
 ·split <;> decide
 ·exact cV (jI _ _) (by rw[cR];exact aU _)
def Zh (m d:Int)(s t:Addr):List (Str×V):=[("number",.int m),("down",.int d),("spots",.ref s),("touching",.ref t)]
section
variable (m d:Int)(s t:Addr)
theorem DX:(Zh m d s t).lookup ("number":Str)=some (.int m):=rfl
theorem DY:(Zh m d s t).lookup ("down":Str)=some (.int d):=rfl
theorem DW:(Zh m d s t).lookup ("spots":Str)=some (.ref s):=rfl
theorem DV:(Zh m d s t).lookup ("touching":Str)=some (.ref t):=rfl
theorem vN:(Zh m d s t).lookup ("touching_places":Str)=none:=rfl
theorem vM:(Zh m d s t).lookup ("next_touching":Str)=none:=rfl
theorem tY:(Zh m d s t).lookup ("is_free":Str)=none:=rfl
theorem vL:(Zh m d s t).lookup ("x_of":Str)=none:=rfl
theorem vK:(Zh m d s t).lookup ("y_of":Str)=none:=rfl
end
structure xW (K:PySem.W.Frag)(C CS:Addr)(H:Hp)(p dx s t:Addr)(b:List Nat)(m d:Int)(zs:List (Addr×fU)):Prop where
 at_:H p=some (.ins C dx (Zh m d s t))
 sp:oG K CS H s b d zs
 cs:zs.map (λz=>z.2)=zQ m d
 tc:H t=some (.lst (cT (fM b m d)))
theorem xW.rel {Rl:Hp->Hp->Prop}(R:RC Rl){K:PySem.W.Frag}{C CS:Addr}{H H':Hp}{p dx s t:Addr}{b:List Nat}{m d:Int}{zs:List (Addr×fU)}(e:Rl H H')(h:xW K C CS H p dx s t b m d zs):xW K C CS H' p dx s t b m d zs:=⟨R.k e h.at_ rfl,h.sp.rel R e,h.cs,R.k e h.tc rfl⟩
theorem xW.same {K:PySem.W.Frag}{C CS:Addr}{H H':Hp}{p dx s t:Addr}{b:List Nat}{m d:Int}{zs:List (Addr×fU)}(h:xW K C CS H p dx s t b m d zs)(e:aZ H H'):xW K C CS H' p dx s t b m d zs:=h.rel cS e
theorem xW.len {K:PySem.W.Frag}{C CS:Addr}{H:Hp}{p dx s t:Addr}{b:List Nat}{m d:Int}{zs:List (Addr×fU)}(h:xW K C CS H p dx s t b m d zs):zs.length=15:=by
 have:=congrArg iI h.cs
 rw[aA] at this
 rw[this]
 unfold zQ dB
 rw[aA,cR]
theorem Qw {zs:List (Addr×fU)}{m d:Int}(h:zs.map (λz=>z.2)=zQ m d){i:Nat}{z:Addr×fU}(hz:zs[i]? =some z)(hi:i < 15):z.2=bB m d i:=by
 have e1:(zs.map λz=>z.2)[i]? =some z.2:=by rw[aP,hz];rfl
 rw[h,Bw hi] at e1
 exact(cX e1).symm
section
variable {P:bS}{w:cY}{K:PySem.W.Frag}{mg:Str->Option aC}{A:Ad}{F:Fd}
theorem vJ (T:kR K mg A F):fP K A.bT "number"/\fP K A.bT "down"/\fP K A.bT "spots"/\fP K A.bT "touching":=⟨T.bT.no _ (by simp),T.bT.no _ (by simp),T.bT.no _ (by simp),T.bT.no _ (by simp)⟩
abbrev BJ:List Str:=["self","is_first","place","spot"]
theorem jQ:bV ["self","is_first","place","spot"] ["self","is_first"] (defScope mZ):=⟨rfl,rfl,rfl,by decide+kernel,rfl,by decide+kernel,by decide+kernel⟩
def xE (K:PySem.W.Frag)(C CS:Addr):Sp:=λvs H Q _=>∃(p dx s:Addr) (b:List Nat) (m d:Int) (zs:List (Addr×fU)),vs=[.ref p,.bl (b.all λc=>c==0)]/\H p=some (.ins C dx [("number",.int m),("down",.int d),("spots",.ref s)])/\oG K CS H s b d zs/\zs.map (λz=>z.2)=zQ m d/\
 ∀H' q,aZ H H'->H q=none->H' q=some (.lst (cT (fM b m d)))->Q (.ref q) H'
theorem IH {K:PySem.W.Frag}{C CS:Addr}{H:Hp}{Q:VK}{E:XK}{p dx s:Addr}{b:List Nat}{m d:Int}{zs:List (Addr×fU)}(hp:H p=some (.ins C dx [("number",.int m),("down",.int d),("spots",.ref s)]))(S:oG K CS H s b d zs)(hc:zs.map (λz=>z.2)=zQ m d)
  (k:∀H' q,aZ H H'->H q=none->H' q=some (.lst (cT (fM b m d)))->Q (.ref q) H'):xE K C CS [.ref p,.bl (b.all λc=>c==0)] H Q E:=⟨p,dx,s,b,m,d,zs,rfl,hp,S,hc,k⟩
theorem AX (T:kR K mg A F):Ok P w K mg 1 A.fH F.fH ["self","is_first"] (xE K A.bT A.aV):=λbase bb=>by
 refine T.fH.F.ok jQ (λvs H Q E h=> ?_) (λcdv Ar outer s H vs Q E hr h=> ?_)
 ·obtain⟨p,dx,s,b,m,d,zs,rfl,_⟩:=h
  rfl
 ·obtain⟨p,dx,s,b,m,d,zs,rfl,hp,S,hc,k⟩:=h
  refine⟨_,(aO (gC (gI (pv 1)) (aS (bU (kP (eB sO (bY (pv 0) rfl) (fF rfl T.BG) (eZ _)) (gJ (aB (fF rfl T.BG) aL)) (gJ aL)))) dN) (aS (bU (tI rfl jQ.nd (Ec rfl T.HC (aB (bY (pv 0) rfl) aL)) (fN (N:=BJ) (sc:=defScope mZ) (own:=[("place",2),("spot",3)]) (by decide+kernel)) (λ_ _ _ _ _=>(NK (K:=K) (n:=2) rfl rfl (iS (dG (i:=2) jQ.nd rfl (cB rfl)) (iS (dG (i:=3) jQ.nd rfl (cB rfl)) wG)))) (λ_ _ _ _ _=>sI (PW.pt (Hz (qK (gI (sM (K:=K) rfl (pv 3) rfl))) (WA (gI (sM (K:=K) rfl (pv 3) rfl)))))) (λ_ _ _ _ _=>(pv 2)))))),?_⟩
  have hlen:zs.length=15:=by
   have:=congrArg iI hc
   rw[aA] at this
   rw[this]
   unfold zQ dB
   rw[aA,cR]
  refine OE (b.all λc=>c==0) (λR h=> ?_) (λc=> ?_) (λc=> ?_)
  ·simp_arith
   exact h
  ·unfold fM at k
   rw[if_pos c] at k
   simp_arith [↓eY,hp,HO.ins.injEq,T.bT.cl,(vJ T).1, ↓rQ]
   refine⟨_,rfl,?_⟩
   refine⟨rfl,?_⟩
   split
   ·rename_i h
    rw[if_pos (V.int.inj h)] at k
    exact⟨by rw[aX];decide,λe1 he1=>k _ _ (aZ.upd he1) he1 aK⟩
   ·rename_i h
    rw[if_neg (λz=>h (by rw[z]))] at k
    exact⟨cA _,λe1 he1=>k _ _ (aZ.upd he1) he1 aK⟩
  ·unfold fM at k
   rw[if_neg (by rw[c];simp)] at k
   simp_arith
   refine lcE (xs:=zs.zipIdx) cS (λz=>V.ref z.1.1) (λz=> !lR b z.1.2 || tS b z.1.2.1 z.1.2.2 d) (λz v H'=>v=.int (z.2:Nat)) s (λR h=> ?_) (by rw[RO];exact S.at_) (by rw[t9];exact KS (by omega)) ?_ ?_
   ·simp_arith [↓eY,hp,HO.ins.injEq,T.bT.cl,(vJ T).2.2.1]
    exact⟨_,rfl,h⟩
   ·intro D hD i z H' T' hz s2 hT acc Nx hacc hlt ad
    obtain⟨hz1,hz2⟩:=Aj hz
    refine OF aK ?_
    have s3:aZ H' (L2.upd H' T' (.tup [.int (i:Nat),.ref z.1.1])):=aZ.upd hT
    obtain⟨dx',a1,a2,sp⟩:=S.each z.1 (aY hz1)
    have sp':=sp.same (s2.trans s3)
    have eE:(aH b z.1.2.1 z.1.2.2==0)=lR b z.1.2:=rfl
    simp_arith [↓eY,sp'.at_,HO.ins.injEq,T.aV.cl,(mF T).1,(mF T).2.1,(mF T).2.2.1,(mF T).2.2.2.1,(mF T).2.2.2.2.1,(mF T).2.2.2.2.2.1,(mF T).2.2.2.2.2.2.1,(mF T).2.2.2.2.2.2.2,KA,GM,GO,DU,GN,JZ,KB,JY,DT]
    rw[eE]
    cases he:lR b z.1.2 with
    | false=>
     simp only[if_true]
     exact ad.add (by rw[he];rfl) hacc hlt cS s3 λH5 _=>by rw[hz2]
    | true=>
     simp only[if_false,Bool.true_eq_false]
     cases hx:tS b z.1.2.1 z.1.2.2 d with
     | true=>
      simp only[if_true]
      exact ad.add (by rw[he,hx];rfl) hacc hlt cS s3 λH5 _=>by rw[hz2]
     | false=>
      simp only[if_false,eO]
      exact ad.no (by rw[he,hx];rfl) _ s3
   ·intro D H2 ys hD s2 hy hp2
    refine k H2 D s2 hD ?_
    rw[hy,AR hp2]
    congr 2
    rw[BP zs (0,(0,0)),kM,bR,hlen]
    unfold cT
    have ef:((λz:(Addr×fU)×Nat=> !lR b z.1.2 || tS b z.1.2.1 z.1.2.2 d) ∘ λi=>(zs.getD i (0,(0,0)),i))=λi=> !lR b (zs.getD i (0,(0,0))).2 || tS b (zs.getD i (0,(0,0))).2.1 (zs.getD i (0,(0,0))).2.2 d:=rfl
    rw[ef]
    have e2:(bA 15).filter (λi=> !lR b (zs.getD i (0,(0,0))).2 || tS b (zs.getD i (0,(0,0))).2.1 (zs.getD i (0,(0,0))).2.2 d)=(bA 15).filter (λ(i:Nat)=> !lR b (bB m d i) || tS b (bB m d i).1 (bB m d i).2 d):=by
     apply mN
     intro i hi
     have hi':=bM.mp hi
     have hz:zs[i]? =some (zs.getD i (0,(0,0))):=by
      rw[aF,aE (by omega)];rfl
     rw[Qw hc hz hi']
    rw[e2]
    rfl
theorem Dv:bV ["self","squares","number","down"] ["self","squares","number","down"] (defScope SD):=⟨rfl,rfl,rfl,by decide+kernel,rfl,by decide+kernel,by decide+kernel⟩
def rO (K:PySem.W.Frag)(C CS:Addr)(H:Hp)(b:List Nat)(p:Addr)(md:Int×Int):Prop:=∃dx s t zs,xW K C CS H p dx s t b md.1 md.2 zs
def tP (K:PySem.W.Frag)(H0:Hp)(C CS:Addr)(H:Hp)(b:List Nat)(p:Addr)(md:Int×Int):Prop:=∃dx s t zs,xW K C CS H p dx s t b md.1 md.2 zs/\H0 p=none/\H0 s=none/\H s=some (.lst (zs.map λz=>V.ref z.1))/\H0 t=none/\∀z∈zs,tM H0 CS H b md.2 z.1 z.2
theorem tP.bt {K:PySem.W.Frag}{H0 H H5:Hp}{C CS D:Addr}{o:HO}{b:List Nat}{p:Addr}{md:Int×Int}(h:tP K H0 C CS H b p md)(hD:H0 D=some o)(e:Bt D H H5):tP K H0 C CS H5 b p md:=by
 obtain⟨dx,s,t,zs,L,f0,f1,hs,f2,f3⟩:=h
 have hs5:=e _ _ hs (λz=>by rw[z,hD] at f1;cases f1) rfl
 exact⟨dx,s,t,zs,⟨e _ _ L.at_ (λz=>by rw[z,hD] at f0;cases f0) rfl,⟨dX.of hs5,λz hz=>((f3 z hz).bt hD e).p⟩,L.cs,e _ _ L.tc (λz=>by rw[z,hD] at f2;cases f2) rfl⟩,f0,f1,hs5,f2,λz hz=>(f3 z hz).bt hD e⟩
theorem tP.p {K:PySem.W.Frag}{H0 H:Hp}{C CS:Addr}{b:List Nat}{p:Addr}{md:Int×Int}(h:tP K H0 C CS H b p md):rO K C CS H b p md:=let ⟨dx,s,t,zs,L,_⟩:=h;⟨dx,s,t,zs,L⟩
def MZ (K:PySem.W.Frag)(C CS:Addr):Sp:=λvs H Q _=>∃(p dx a:Addr) (b:List Nat) (m d:Int),vs=[.ref p,.ref a,.int m,.int d]/\H p=some (.ins C dx [])/\dX K H a (pV b)/\BM b/\(0<=m/\m < 15)/\(d=0\/d=1)/\
 ∀H' s t zs,(∀c o,H c=some o->c≠p->H' c=some o)->xW K C CS H' p dx s t b m d zs->H s=none->H' s=some (.lst (zs.map λz=>V.ref z.1))->H t=none->(∀z∈zs,tM H CS H' b d z.1 z.2)->Q .non H'
theorem tM.rel {Rl:Hp->Hp->Prop}(R:RC Rl){H0 H H':Hp}{C:Addr}{b:List Nat}{d:Int}{p:Addr}{c:Int×Int}(h:tM H0 C H b d p c)(e:Rl H H'):tM H0 C H' b d p c:=by
 obtain⟨dx,a1,a2,s,f⟩:=h
 exact⟨dx,a1,a2,⟨R.k e s.at_ rfl,R.k e s.bf rfl,R.k e s.bh rfl⟩,f⟩
theorem tM.back {H0 H1 H:Hp}{C:Addr}{b:List Nat}{d:Int}{p:Addr}{c:Int×Int}(h:tM H1 C H b d p c)(e:∀a,H1 a=none->H0 a=none):tM H0 C H b d p c:=by
 obtain⟨dx,a1,a2,s,f0,f1,f2⟩:=h
 exact⟨dx,a1,a2,s,e _ f0,e _ f1,e _ f2⟩
theorem Nl {D:Addr}{H:Hp}{o:HO}:Bt D H (L2.upd H D o):=λc u h n _=>by rw[aM n];exact h
theorem NU (T:kR K mg A F):Ok P w K mg 7 A.nX F.nX ["self","squares","number","down"] (MZ K A.bT A.aV):=λbase bb=>by
 refine T.nX.F.ok Dv (λvs H Q E h=> ?_) (λcdv Ar outer s H vs Q E hr h=> ?_)
 ·obtain⟨p,dx,a,b,m,d,rfl,_⟩:=h
  rfl
 ·obtain⟨p,dx,a,b,m,d,rfl,hp,ha,hb,hm,hd,k⟩:=h
  refine⟨_,(aO (gO (pv 0) (pv 2) rfl) (aO (gO (pv 0) (pv 3) rfl) (aO (gO (pv 0) (oF T.mY (JV T base bb) hr (aB (pv 1) (aB (eL vH (pv 2) (pv 3)) (aB (eL vH (pv 2) (eL sN dS (pv 3))) (aB (pv 3) (aB (fF rfl T.vP) aL)))))) rfl) (aS (gO (pv 0) (IL (pv 0) T.bT T.fH (AX T base bb) hr (aB (oF T.pI (NQ T base bb) hr (aB (pv 1) aL)) aL)) rfl))))),?_⟩
  obtain⟨n1,n2,n3,n4⟩:=vJ T
  have cl:=T.bT.cl
  refine sS (fs:=[]) (λv H1=>v=.int m/\H1=H) rfl cl n1 (by decide) (λR h=> ?_) (λv H1 g=>by rw[g.2];exact hp) ?_
  ·simp_arith
   exact h _ _ ⟨rfl,rfl⟩
  rintro _ H1 ⟨rfl,e1⟩
  rw[e1]
  have u1:mE p H (L2.upd H p (.ins A.bT dx (fL "number" (.int m) []))):=(mE.refl p H).andU
  have p1:(L2.upd H p (.ins A.bT dx (fL "number" (.int m) []))) p=some (.ins A.bT dx [("number",.int m)]):=aK
  generalize L2.upd H p (.ins A.bT dx (fL "number" (.int m) []))=J1 at u1 p1 ⊢
  refine sS (fs:=[("number",.int m)]) (λv H1=>v=.int d/\H1=J1) rfl cl n2 (by show 1 < 1000;decide) (λR h=> ?_) (λv H1 g=>by rw[g.2];exact p1) ?_
  ·simp_arith
   exact h _ _ ⟨rfl,rfl⟩
  rintro _ J1 ⟨rfl,rfl⟩
  have u2:mE p H (L2.upd J1 p (.ins A.bT dx (fL "down" (.int d) [("number",.int m)]))):=u1.andU
  have p2:(L2.upd J1 p (.ins A.bT dx (fL "down" (.int d) [("number",.int m)]))) p=some (.ins A.bT dx [("number",.int m),("down",.int d)]):=aK
  generalize L2.upd J1 p (.ins A.bT dx (fL "down" (.int d) [("number",.int m)]))=J2 at u2 p2 ⊢
  have a2:=u2.seqI hp ha
  have back:∀c,J2 c=none->H c=none:=λc hc=>u2.nothing hp p2 hc
  refine sS (fs:=[("number",.int m),("down",.int d)]) (λv H3=>∃(q:Addr) (zs:List (Addr×fU)),v=.ref q/\aZ J2 H3/\J2 q=none/\H3 q=some (.lst (zs.map λz=>V.ref z.1))/\(∀z∈zs,tM J2 A.aV H3 b d z.1 z.2)/\zs.map (λz=>z.2)=zQ m d) rfl cl n3 (by show 2 < 1000;decide) (λR h=> ?_) (λv H1 g=>by obtain⟨_,_,_,g2,_⟩:=g;exact g2 _ _ p2) ?_
  ·simp_arith
   refine⟨.inl ⟨by omega,by omega⟩,.inl ⟨by omega,by omega⟩,?_⟩
   exact FC (n:=15) a2 hb hd (aU _) (j8 hm hd) λH3 q zs s3 hq hq' S f e=>h _ _ ⟨q,zs,rfl,s3,hq,hq',f,e⟩
  rintro _ H3 ⟨q,zs,rfl,s3,hq,hq',f3,e3⟩
  have hqp:q≠p:=λz=>by rw[z,p2] at hq;cases hq
  have u3:mE p H (L2.upd H3 p (.ins A.bT dx (fL "spots" (.ref q) [("number",.int m),("down",.int d)]))):=(u2.andS s3).andU
  have p3:(L2.upd H3 p (.ins A.bT dx (fL "spots" (.ref q) [("number",.int m),("down",.int d)]))) p=some (.ins A.bT dx [("number",.int m),("down",.int d),("spots",.ref q)]):=aK
  have q3:(L2.upd H3 p (.ins A.bT dx (fL "spots" (.ref q) [("number",.int m),("down",.int d)]))) q=some (.lst (zs.map λz=>V.ref z.1)):=by rw[aM hqp];exact hq'
  have g3:∀z∈zs,tM J2 A.aV (L2.upd H3 p (.ins A.bT dx (fL "spots" (.ref q) [("number",.int m),("down",.int d)]))) b d z.1 z.2:=λz hz=>(f3 z hz).bt p2 Nl
  have b3:∀c,(L2.upd H3 p (.ins A.bT dx (fL "spots" (.ref q) [("number",.int m),("down",.int d)]))) c=none->J2 c=none:=λc hc=>by
   by_cases z:c=p
   ·rw[z,aK] at hc;cases hc
   ·rw[aM z] at hc;exact s3.free hc
  generalize L2.upd H3 p (.ins A.bT dx (fL "spots" (.ref q) [("number",.int m),("down",.int d)]))=J3 at u3 p3 q3 g3 b3 ⊢
  have a3:=u3.seqI hp ha
  refine HY (fs:=[("number",.int m),("down",.int d),("spots",.ref q)]) (λv H4=>∃t,v=.ref t/\aZ J3 H4/\J3 t=none/\H4 t=some (.lst (cT (fM b m d)))) rfl cl n4 (by show 3 < 1000;decide) (λR h=> ?_) (λv H1 g=>by obtain⟨_,_,g2,_⟩:=g;exact g2 _ _ p3) ?_
  ·simp_arith [p3,HO.ins.injEq]
   refine⟨rfl,JC a3 hb λH4 s4=> ?_⟩
   exact IH (s4 _ _ p3) ⟨dX.of (s4 _ _ q3),λz hz=>((g3 z hz).rel cS s4).p⟩ e3 λH5 t s5 ht ht'=>h _ _ ⟨t,rfl,s4.trans s5,s4.free ht,ht'⟩
  rintro _ H4 ⟨t,rfl,s4,ht,ht'⟩
  have p4:=s4 _ _ p3
  have htp:t≠p:=λz=>by rw[z,p3] at ht;cases ht
  refine k _ q t zs (u3.andS s4).andU ⟨aK,⟨dX.of ?_,λz hz=> ?_⟩,e3,?_⟩ (back _ hq) ?_ (back _ (b3 _ ht)) λz hz=> ?_
  ·rw[aM hqp];exact s4 _ _ q3
  ·exact(((g3 z hz).rel cS s4).bt p2 Nl).p
  ·rw[aM htp];exact ht'
  ·rw[aM hqp];exact s4 _ _ q3
  ·exact(((g3 z hz).rel cS s4).bt p2 Nl).back back
theorem tP.rel {Rl:Hp->Hp->Prop}(R:RC Rl){K:PySem.W.Frag}{H0 H H':Hp}{C CS:Addr}{b:List Nat}{p:Addr}{md:Int×Int}(h:tP K H0 C CS H b p md)(e:Rl H H'):tP K H0 C CS H' b p md:=by
 obtain⟨dx,s,t,zs,L,f0,f1,hs,f2,f3⟩:=h
 exact⟨dx,s,t,zs,L.rel R e,f0,f1,R.k e hs rfl,f2,λz hz=>(f3 z hz).rel R e⟩
theorem tP.back {K:PySem.W.Frag}{H0 H1 H:Hp}{C CS:Addr}{b:List Nat}{p:Addr}{md:Int×Int}(h:tP K H1 C CS H b p md)(e:∀a,H1 a=none->H0 a=none):tP K H0 C CS H b p md:=by
 obtain⟨dx,s,t,zs,L,f0,f1,hs,f2,f3⟩:=h
 exact⟨dx,s,t,zs,L,e _ f0,e _ f1,hs,e _ f2,λz hz=>(f3 z hz).back e⟩
theorem Gv {K:PySem.W.Frag}{C CS:Addr}{H:Hp}{Qp:Hp->Prop}{E:XK}{a x0 dx:Addr}{b:List Nat}{m d:Int}(ha:dX K H a (pV b))(hb:BM b)(hm:0<=m/\m < 15)(hd:d=0\/d=1)(nx:H x0=none)(nd:H dx=none)(ne:dx≠x0)
  (k:∀H',aZ H H'->tP K H C CS H' b x0 (m,d)->Qp H'):MZ K C CS [.ref x0,.ref a,.int m,.int d] (L2.upd (L2.upd H dx (.own x0)) x0 (.ins C dx [])) (λv H2=>v=.non/\Qp H2) E:=by
 have up:aZ H (L2.upd (L2.upd H dx (.own x0)) x0 (.ins C dx [])):=λc o e=>by
  rw[aM (bJ e nx),aM (bJ e nd)];exact e
 exact⟨x0,dx,a,b,m,d,rfl,aK,up.seq ha,hb,hm,hd,λH' s t zs bt L f1 hs f2 f3=>⟨rfl,k H' (aZ.made nx nd bt) ⟨dx,s,t,zs,L,nx,up.free f1,hs,up.free f2,λz hz=>(f3 z hz).back λc hc=>up.free hc⟩⟩⟩
abbrev EO:List Str:=["self","start","place"]
theorem oA:bV ["self","start","place"] ["self","start"] (defScope oS):=⟨rfl,rfl,rfl,by decide+kernel,rfl,by decide+kernel,by decide+kernel⟩
def PX (K:PySem.W.Frag)(C CS:Addr):Sp:=λvs H Q _=>∃(p:Addr) (b:List Nat) (m d:Int) (st:Nat),vs=[.ref p,.int st]/\rO K C CS H b p (m,d)/\(((fM b m d).filter λt=>decide (st<=t))=[]->∀H',aZ H H'->Q .non H')/\
 ∀t∈(fM b m d),st<=t->(∀u∈fM b m d,st<=u->t<=u)->∀H',aZ H H'->Q (.int (t:Nat)) H'
theorem EI (T:kR K mg A F):Ok P w K mg 1 A.gA F.gA ["self","start"] (PX K A.bT A.aV):=λbase bb=>by
 refine T.gA.F.ok oA (λvs H Q E h=> ?_) (λcdv Ar outer s H vs Q E hr h=> ?_)
 ·obtain⟨p,b,m,d,st,rfl,_⟩:=h
  rfl
 ·obtain⟨p,b,m,d,st,rfl,⟨dx,s,t,zs,L⟩,k1,k2⟩:=h
  refine⟨_,(aS (bU (i4 rfl (by rfl) T.A1 (aB (tI rfl oA.nd (iY (bY (pv 0) rfl)) (fN (N:=EO) (sc:=defScope oS) (own:=[("place",2)]) (by decide+kernel)) (λ_ _ _ _ _=>(dG (i:=2) oA.nd rfl (cB rfl))) (λ_ _ _ _ _=>sI (eB Pp (pv 2) (pv 1) (eZ _))) (λ_ _ _ _ _=>(pv 2))) aL)))),?_⟩
  simp_arith [x6]
  refine Ux (xs:=fM b m d) (λi:Nat=>V.int i) (λi=>if decide (st<=i)=true then some (V.int (i:Nat)) else none) (Ld H t) (λR h=> ?_) (λa' H1 c=>by rw[c.1,c.2];exact dX.of L.tc) (KS (Vp _ _ _)) ?_ ?_
  ·simp_arith [↓eY,L.at_,HO.ins.injEq,T.bT.cl,(vJ T).1,(vJ T).2.1,(vJ T).2.2.1,(vJ T).2.2.2,DX,DY,DW,DV,vN,vM,tY,vL,vK]
   exact h _ _ ⟨rfl,rfl⟩
  ·rintro _ _ D ⟨rfl,rfl⟩ hD i z H' acc Nx hz e1 e2 e3 ad
   simp_arith
   by_cases h:st<=z
   ·have h':(st:Int)<=(z:Int):=by omega
    rw[if_pos h']
    rw[if_pos (decide_eq_true h)] at ad
    exact rZ.yes ad e2 e3 (aZ.refl _)
   ·have h':¬(st:Int)<=(z:Int):=by omega
    rw[if_neg h']
    rw[if_neg (by simpa using h)] at ad
    exact rZ.no ad (aZ.refl _)
  ·rintro _ _ D H2 ⟨rfl,rfl⟩ hD e1 e2
   rw[xA] at e2
   have e3:(((fM b m d).filter λi=>decide (st<=i)).map λ(i:Nat)=>V.int (i:Nat))=(((fM b m d).filter λi=>decide (st<=i)).map cF).map V.int:=by rw[bR];rfl
   rw[e3] at e2
   refine⟨D,rfl,_,dX.of e2,λh=>k1 (by simpa using h) _ e1,λx hx hmin=> ?_⟩
   obtain⟨i,hi,rfl⟩:=bE.mp hx
   obtain⟨hi1,hi2⟩:=bO.mp hi
   refine k2 i hi1 (of_decide_eq_true hi2) (λu hu hsu=> ?_) _ e1
   have:=hmin u (bE.mpr ⟨u,bO.mpr ⟨hu,decide_eq_true hsu⟩,rfl⟩)
   exact Int.ofNat_le.mp this
theorem TR:bV ["self","place"] ["self","place"] (defScope FY):=⟨rfl,rfl,rfl,by decide+kernel,rfl,by decide+kernel,by decide+kernel⟩
def VG (K:PySem.W.Frag)(C CS:Addr):Sp:=FP λvs H r=>∃(p:Addr) (b:List Nat) (m d i:Int),vs=[.ref p,.int i]/\rO K C CS H b p (m,d)/\r=.bl (freeC b m d i)
theorem RQ {K:PySem.W.Frag}{C CS:Addr}{H:Hp}{Q:VK}{E:XK}{p:Addr}{b:List Nat}{m d i:Int}(L:rO K C CS H b p (m,d))(k:∀H',aZ H H'->Q (.bl (freeC b m d i)) H'):VG K C CS [.ref p,.int i] H Q E:=⟨_,⟨p,b,m,d,i,rfl,L,rfl⟩,k⟩
theorem DS (T:kR K mg A F):Ok P w K mg 1 A.jZ F.jZ ["self","place"] (VG K A.bT A.aV):=λbase bb=>by
 refine T.jZ.F.ok TR (λvs H Q E h=> ?_) (λcdv Ar outer s H vs Q E hr h=> ?_)
 ·obtain⟨r,⟨p,b,m,d,i,rfl,_⟩,_⟩:=h
  rfl
 ·obtain⟨r,⟨p,b,m,d,i,rfl,⟨dx,s,t,zs,L⟩,rfl⟩,k⟩:=h
  refine⟨_,(aS (bU (Ik (E5 (GC GD WK dS (pv 1) (fF rfl T.vP))) (LD (bY (uM qE (bY (pv 0) rfl) (pv 1) (λ_ _=>rfl)) rfl))))),?_⟩
  have k0:=k _ (aZ.refl H)
  simp_arith
  unfold freeC at k0
  by_cases h1:0<=i
  ·by_cases h2:i < 15
   ·rw[if_pos h1,if_neg (by simpa using h2)]
    obtain⟨n,rfl⟩:∃n:Nat,i=n:=⟨i.toNat,by omega⟩
    have hn:n < 15:=by omega
    obtain⟨z,hz⟩:∃z,zs[n]? =some z:=⟨_,aE (show n < zs.length by rw[L.len];exact hn)⟩
    obtain⟨dx',a1,a2,sp⟩:=L.sp.each _ (aY hz)
    have ec:z.2=bB m d n:=Qw L.cs hz hn
    simp_arith [↓eY,L.at_,HO.ins.injEq,T.bT.cl,(vJ T).1,(vJ T).2.1,(vJ T).2.2.1,(vJ T).2.2.2,DX,DY,DW,DV,vN,vM,tY,vL,vK]
    refine⟨_,_,_,_,rfl,rfl,L.sp.at_,uO (j:=n) rfl (by rw[aP,hz];rfl),asr ⟨_,_,_,sp.at_,T.aV.cl,(mF T).2.1,_,GM ..,?_⟩⟩
    have e:(aH b z.2.1 z.2.2==0)=(!(decide (0<=(n:Int))&&decide ((n:Int) < 15)) || lR b (bB m d n)):=by
     rw[decide_eq_true h1,decide_eq_true h2, <-ec]
     simp[lR]
    rw[e]
    exact k0
   ·rw[if_pos h1,if_pos h2]
    rw[decide_eq_true h1,decide_eq_false h2] at k0
    exact k0
  ·rw[if_neg h1]
   rw[decide_eq_false h1] at k0
   exact k0
theorem Du:bV ["self","place"] ["self","place"] (defScope SC):=⟨rfl,rfl,rfl,by decide+kernel,rfl,by decide+kernel,by decide+kernel⟩
def Ax (K:PySem.W.Frag)(C CS:Addr):Sp:=FP λvs H r=>∃(p:Addr) (b:List Nat) (m d i:Int),vs=[.ref p,.int i]/\rO K C CS H b p (m,d)/\(d=0\/d=1)/\r=.int (bB m d i).1
theorem Lh {K:PySem.W.Frag}{C CS:Addr}{H:Hp}{Q:VK}{E:XK}{p:Addr}{b:List Nat}{m d i:Int}(L:rO K C CS H b p (m,d))(hd:d=0\/d=1)(k:∀H',aZ H H'->Q (.int (bB m d i).1) H'):Ax K C CS [.ref p,.int i] H Q E:=⟨_,⟨p,b,m,d,i,rfl,L,hd,rfl⟩,k⟩
theorem Eo (T:kR K mg A F):Ok P w K mg 1 A.rN F.rN ["self","place"] (Ax K A.bT A.aV):=λbase bb=>by
 refine T.rN.F.ok Du (λvs H Q E h=> ?_) (λcdv Ar outer s H vs Q E hr h=> ?_)
 ·obtain⟨r,⟨p,b,m,d,i,rfl,_⟩,_⟩:=h
  rfl
 ·obtain⟨r,⟨p,b,m,d,i,rfl,⟨dx,s,t,zs,L⟩,hd,rfl⟩,k⟩:=h
  refine⟨_,(aS (bU (kP (eB sO (bY (pv 0) rfl) dS (eZ _)) (bY (pv 0) rfl) (pv 1)))),?_⟩
  have k0:=k _ (aZ.refl H)
  unfold bB bQ at k0
  simp_arith [↓eY,L.at_,HO.ins.injEq,T.bT.cl,(vJ T).1,(vJ T).2.1,(vJ T).2.2.1,(vJ T).2.2.2,DX,DY,DW,DV,vN,vM,tY,vL,vK]
  rcases hd with rfl | rfl
  ·simpa using k0
  ·simpa using k0
theorem Dt:bV ["self","place"] ["self","place"] (defScope SB):=⟨rfl,rfl,rfl,by decide+kernel,rfl,by decide+kernel,by decide+kernel⟩
def Av (K:PySem.W.Frag)(C CS:Addr):Sp:=FP λvs H r=>∃(p:Addr) (b:List Nat) (m d i:Int),vs=[.ref p,.int i]/\rO K C CS H b p (m,d)/\(d=0\/d=1)/\r=.int (bB m d i).2
theorem Lg {K:PySem.W.Frag}{C CS:Addr}{H:Hp}{Q:VK}{E:XK}{p:Addr}{b:List Nat}{m d i:Int}(L:rO K C CS H b p (m,d))(hd:d=0\/d=1)(k:∀H',aZ H H'->Q (.int (bB m d i).2) H'):Av K C CS [.ref p,.int i] H Q E:=⟨_,⟨p,b,m,d,i,rfl,L,hd,rfl⟩,k⟩
theorem En (T:kR K mg A F):Ok P w K mg 1 A.rM F.rM ["self","place"] (Av K A.bT A.aV):=λbase bb=>by
 refine T.rM.F.ok Dt (λvs H Q E h=> ?_) (λcdv Ar outer s H vs Q E hr h=> ?_)
 ·obtain⟨r,⟨p,b,m,d,i,rfl,_⟩,_⟩:=h
  rfl
 ·obtain⟨r,⟨p,b,m,d,i,rfl,⟨dx,s,t,zs,L⟩,hd,rfl⟩,k⟩:=h
  refine⟨_,(aS (bU (kP (eB sO (bY (pv 0) rfl) dS (eZ _)) (pv 1) (bY (pv 0) rfl)))),?_⟩
  have k0:=k _ (aZ.refl H)
  unfold bB bQ at k0
  simp_arith [↓eY,L.at_,HO.ins.injEq,T.bT.cl,(vJ T).1,(vJ T).2.1,(vJ T).2.2.1,(vJ T).2.2.2,DX,DY,DW,DV,vN,vM,tY,vL,vK]
  rcases hd with rfl | rfl
  ·simpa using k0
  ·simpa using k0
abbrev OV:List Str:=["squares","rows","columns","number"]
theorem sE:bV ["squares","rows","columns","number"] ["squares"] (defScope yR):=⟨rfl,rfl,rfl,by decide+kernel,rfl,by decide+kernel,by decide+kernel⟩
def qO:List (Int×Int):=((bA 15).map λ(i:Nat)=>((i:Int),(0:Int)))++((bA 15).map λ(i:Nat)=>((i:Int),(1:Int)))
def MW (K:PySem.W.Frag)(C CS:Addr):Sp:=λvs H Q _=>∃(a:Addr) (b:List Nat),vs=[.ref a]/\dX K H a (pV b)/\BM b/\
 ∀H' q (zs:List (Addr×(Int×Int))),aZ H H'->H q=none->H' q=some (.lst (zs.map λz=>V.ref z.1))->(∀z∈zs,tP K H C CS H' b z.1 z.2)->zs.map (λz=>z.2)=qO->Q (.ref q) H'
theorem ZG {K:PySem.W.Frag}{C CS:Addr}{H:Hp}{Q:VK}{E:XK}{a:Addr}{b:List Nat}(ha:dX K H a (pV b))(hb:BM b)(k:∀H' q (zs:List (Addr×(Int×Int))),aZ H H'->H q=none->H' q=some (.lst (zs.map λz=>V.ref z.1))->(∀z∈zs,tP K H C CS H' b z.1 z.2)->zs.map (λz=>z.2)=qO->Q (.ref q) H'):MW K C CS [.ref a] H Q E:=⟨a,b,rfl,ha,hb,k⟩
theorem rO.rel {Rl:Hp->Hp->Prop}(R:RC Rl){K:PySem.W.Frag}{C CS:Addr}{H H':Hp}{b:List Nat}{p:Addr}{md:Int×Int}(e:Rl H H')(h:rO K C CS H b p md):rO K C CS H' b p md:=let ⟨dx,s,t,zs,L⟩:=h;⟨dx,s,t,zs,L.rel R e⟩
theorem Em (T:kR K mg A F):Ok P w K mg 9 A.rH F.rH ["squares"] (MW K A.bT A.aV):=λbase bb=>by
 refine T.rH.F.ok sE (λvs H Q E h=> ?_) (λcdv Ar outer s H vs Q E hr h=> ?_)
 ·obtain⟨a,b,rfl,_⟩:=h
  rfl
 ·obtain⟨a,b,rfl,ha,hb,k⟩:=h
  refine⟨_,(aO (xK (i:=1) rfl sE.nd rfl rfl (BU rfl rfl rfl rfl) (tX rfl T.wN (aB (fF rfl T.vP) aL)) (fN (N:=OV) (sc:=defScope yR) (own:=[("number",3)]) (by decide+kernel)) (λ_ _ _ _ _=>(dG (i:=3) sE.nd rfl (cB rfl))) (λ_ _ _ _ _=>oE) (λ_ _ _ _ _=>(y9 T.Pw T.bT T.nX (NU T base bb) hr (aB (pv 0) (aB (pv 3) (aB dS aL)))))) (aO (xK (i:=2) rfl sE.nd rfl rfl (BU rfl rfl rfl rfl) (tX rfl T.wN (aB (fF rfl T.vP) aL)) (fN (N:=OV) (sc:=defScope yR) (own:=[("number",3)]) (by decide+kernel)) (λ_ _ _ _ _=>(dG (i:=3) sE.nd rfl (cB rfl))) (λ_ _ _ _ _=>oE) (λ_ _ _ _ _=>(y9 T.Pw T.bT T.nX (NU T base bb) hr (aB (pv 0) (aB (pv 3) (aB dS aL)))))) (aS (bU (eL GE (pv 1) (pv 2)))))),?_⟩
  simp_arith
  refine F7 (n:=15) cS (λ_=>true) (λi v H'=>∃p,v=.ref p/\tP K H A.bT A.aV H' b p ((i:Nat),0)) (λR h=>h) (KS (aU _)) ?_ ?_
  ·intro D hD i H' hi s1 acc Nx hacc hz ad
   simp_arith [↓AQ]
   intro x0 dx nx nd ne
   refine Gv (s1.seq ha) hb ⟨by omega,by omega⟩ (.inl rfl) nx nd ne λH2 s2 L=> ?_
   exact ad.add rfl hacc hz cS s2 λH5 b5=>⟨x0,rfl,(L.bt hacc b5).back λc hc=>s1.free hc⟩
  ·intro D H1 ys hD s1 hy hp
   rw[tZ] at hp
   obtain⟨zs1,rfl,h2,h3⟩:=HU (λi:Nat=>((i:Int),(0:Int))) hp
   simp_arith
   refine F7 (n:=15) cS (λ_=>true) (λi v H'=>∃p,v=.ref p/\tP K H A.bT A.aV H' b p ((i:Nat),1)) (λR h=>h) (KS (aU _)) ?_ ?_
   ·intro D2 hD2 i H' hi s2 acc Nx hacc hz ad
    simp_arith [↓AQ]
    intro x0 dx nx nd ne
    refine Gv ((s1.trans s2).seq ha) hb ⟨by omega,by omega⟩ (.inr rfl) nx nd ne λH3 s3 L=> ?_
    exact ad.add rfl hacc hz cS s3 λH5 b5=>⟨x0,rfl,(L.bt hacc b5).back λc hc=>(s1.trans s2).free hc⟩
   ·intro D2 H2 ys2 hD2 s2 hy2 hp2
    rw[tZ] at hp2
    obtain⟨zs2,rfl,h22,h23⟩:=HU (λi:Nat=>((i:Int),(1:Int))) hp2
    have l1:zs1.length=15:=by have:=congrArg iI h2;simpa using this
    have l2:zs2.length=15:=by have:=congrArg iI h22;simpa using this
    simp_arith
    refine⟨D,D2,_,_,rfl,rfl,s2 _ _ hy,hy2,by rw[aA,aA,l1,l2,aX];decide,λe1 he1=> ?_⟩
    have s3:aZ H2 (L2.upd H2 e1 (.lst ((zs1.map λz=>V.ref z.1)++zs2.map λz=>V.ref z.1))):=aZ.upd he1
    refine k _ e1 (zs1++zs2) ((s1.trans s2).trans s3) ((s1.trans s2).free he1) (by rw[aK,cC]) (λz hz=> ?_) (by rw[cC,h2,h22];rfl)
    rcases cW.mp hz with hz | hz
    ·exact(h3 z hz).rel cS (s2.trans s3)
    ·exact(h23 z hz).rel cS s3
end
def m9 (nd:Addr)(v:V):List (Str×V):=[("nexts",.ref nd),("word",v)]
theorem Bx (nd:Addr)(v:V):(m9 nd v).lookup ("nexts":Str)=some (.ref nd):=rfl
theorem U5 (nd:Addr)(v:V):(m9 nd v).lookup ("word":Str)=some v:=rfl
structure oB where
 p:Addr
 dx:Addr
 nd:Addr
def BD (f:List Nat->oB)(u:List Nat)(c:Nat):mX×V:=(eI (c:Int),V.ref (f (u++[c])).p)
structure SZ (C:Addr)(H:Hp)(Dm:List Nat->Prop)(S:List (List Nat))(f:List Nat->oB)(ks:List Nat->List Nat)(tw:List Nat->Addr):Prop where
 node:∀u,Dm u->H (f u).p=some (.ins C (f u).dx (m9 (f u).nd (if S.contains u=true then .ref (tw u) else .non)))
 dict:∀u,Dm u->H (f u).nd=some (.dK ((ks u).map (BD f u)))
 keys:∀u,Dm u->∀c,c∈ks u↔Dm (u++[c])
 nd:∀u,Dm u->(ks u).Nodup
 tup:∀u∈S,H (tw u)=some (.tup (cT u))
 inj:∀u v,Dm u->Dm v->(f u).p=(f v).p->u=v
 injd:∀u v,Dm u->Dm v->(f u).nd=(f v).nd->u=v
 cap:∀u,Dm u->∀c∈u,c<=255
theorem SZ.rel {Rl:Hp->Hp->Prop}(R:RC Rl){C:Addr}{H H':Hp}{Dm:List Nat->Prop}{S:List (List Nat)}{f:List Nat->oB}{ks:List Nat->List Nat}{tw:List Nat->Addr}(t:SZ C H Dm S f ks tw)(e:Rl H H'):SZ C H' Dm S f ks tw:=
 ⟨λu h=>R.k e (t.node u h) rfl,λu h=>R.k e (t.dict u h) rfl,t.keys,t.nd,λu h=>R.k e (t.tup u h) rfl,t.inj,t.injd,t.cap⟩
theorem Iw:∀{l m:List Nat},l.Nodup->(∀x∈l,x∈m)->l.length<=m.length
 | [],_,_,_=>cA _
 | x::l,m,nd,h=>by
  rw[dU] at nd
  have hx:x∈m:=h x (aT ..)
  have:=Iw (l:=l) (m:=m.erase x) nd.2 λy hy=>(xS (λz=>nd.1 (by rw[<-z];exact hy))).mpr (h y (aN _ hy))
  rw[mQ hx] at this
  have:0 < m.length:=uT hx
  rw[cM]
  omega
theorem SZ.few {C:Addr}{H:Hp}{Dm:List Nat->Prop}{S:List (List Nat)}{f:List Nat->oB}{ks:List Nat->List Nat}{tw:List Nat->Addr}(t:SZ C H Dm S f ks tw){u:List Nat}(h:Dm u):(ks u).length<=256:=by
 have:=Iw (m:=bA 256) (t.nd u h) λc hc=>bM.mpr (by
  have:=t.cap (u++[c]) ((t.keys u h c).mp hc) c (by simp)
  omega)
 rwa [cR] at this
theorem CM (f:List Nat->oB)(u:List Nat)(c:Nat):∀l:List Nat,EE (l.map (BD f u)) (eI (c:Int))=if c∈l then some (.ref (f (u++[c])).p) else none
 | []=>rfl
 | x::l=>by
  rw[aJ]
  by_cases e:x=c
  ·subst e
   rw[if_pos (aT ..)]
   exact MG rfl
  ·have hn:¬(BD f u x).1=eI (c:Int):=λz=>e (oC (YM z))
   rw[MH hn,CM f u c l]
   by_cases hc:c∈l
   ·rw[if_pos hc,if_pos (aN _ hc)]
   ·rw[if_neg hc,if_neg (by rw[bN,not_or];exact⟨λz=>e z.symm,hc⟩)]
section
variable {P:bS}{w:cY}{K:PySem.W.Frag}{mg:Str->Option aC}{A:Ad}{F:Fd}
theorem E9 (T:kR K mg A F):fP K A.cQ "nexts"/\fP K A.cQ "word":=⟨T.cQ.no _ (by simp),T.cQ.no _ (by simp)⟩
theorem VU:bV ["self"] ["self"] (defScope JS):=⟨rfl,rfl,rfl,by decide+kernel,rfl,by decide+kernel,by decide+kernel⟩
def FO (C:Addr):Sp:=λvs H Q _=>∃(p dx:Addr),vs=[.ref p]/\H p=some (.ins C dx [])/\∀H' nd,mE p H H'->H nd=none->H' p=some (.ins C dx (m9 nd .non))->H' nd=some (.dK [])->Q .non H'
theorem GK (T:kR K mg A F):Ok P w K mg 1 A.kK F.kK ["self"] (FO A.cQ):=λbase bb=>by
 refine T.kK.F.ok VU (λvs H Q E h=> ?_) (λcdv Ar outer s H vs Q E hr h=> ?_)
 ·obtain⟨p,dx,rfl,_⟩:=h
  rfl
 ·obtain⟨p,dx,rfl,hp,k⟩:=h
  refine⟨_,(aO (gO (pv 0) Wu rfl) (aS (gO (pv 0) Ee rfl))),?_⟩
  have cl:=T.cQ.cl
  refine sS (dx:=dx) (fs:=[]) (λv H1=>∃nd,v=.ref nd/\H nd=none/\H1=L2.upd H nd (.dK [])) rfl cl (E9 T).1 (by decide) (λR h=> ?_) (λv H1 g=> ?_) ?_
  ·simp_arith [Vt]
   exact λnd hn=>h _ _ ⟨nd,rfl,hn,rfl⟩
  ·obtain⟨nd,_,hn,rfl⟩:=g
   rw[aM (bJ hp hn)];exact hp
  rintro _ _ ⟨nd,rfl,hn,rfl⟩
  have hpn:p≠nd:=bJ hp hn
  refine HY (fs:=[("nexts",.ref nd)]) (λv H1=>v=.non/\H1=L2.upd (L2.upd H nd (.dK [])) p (.ins A.cQ dx [("nexts",.ref nd)])) rfl cl (E9 T).2 (by show 1 < 1000;decide) (λR h=> ?_) (λv H1 g=>by rw[g.2,aK]) ?_
  ·simp_arith
   exact h _ _ ⟨rfl,rfl⟩
  rintro _ _ ⟨rfl,rfl⟩
  refine k _ nd (λc o e n=> ?_) hn aK ?_
  ·rw[aM n,aM n,aM (bJ e hn)];exact e
  ·rw[aM (fE hpn),aM (fE hpn),aK]
theorem UU {C:Addr}{H:Hp}{Qp:Hp->Prop}{E:XK}{x0 dx:Addr}(nx:H x0=none)(nd:H dx=none)(ne:dx≠x0)
  (k:∀H' n,aZ H H'->H n=none->n≠x0->H' x0=some (.ins C dx (m9 n .non))->H' n=some (.dK [])->Qp H'):FO C [.ref x0] (L2.upd (L2.upd H dx (.own x0)) x0 (.ins C dx [])) (λv H2=>v=.non/\Qp H2) E:=by
 have up:aZ H (L2.upd (L2.upd H dx (.own x0)) x0 (.ins C dx [])):=λc o e=>by
  rw[aM (bJ e nx),aM (bJ e nd)];exact e
 exact⟨x0,dx,rfl,aK,λH' n bt hn h1 h2=>⟨rfl,k H' n (aZ.made nx nd bt) (up.free hn) (λz=>by rw[z,aK] at hn;cases hn) h1 h2⟩⟩
theorem QA:bV ["branch","letter"] ["branch","letter"] (defScope DP):=⟨rfl,rfl,rfl,by decide+kernel,rfl,by decide+kernel,by decide+kernel⟩
def CO (f:List Nat->oB)(v:List Nat)(n:oB):List Nat->oB:=λu=>if u=v then n else f u
def vO (ks:List Nat->List Nat)(u:List Nat)(c:Nat):List Nat->List Nat:=λv=>if v=u then ks u++[c] else if v=u++[c] then[] else ks v
def PY (C:Addr):Sp:=λvs H Q _=>∃(Dm:List Nat->Prop) (S:List (List Nat)) (f:List Nat->oB) (ks:List Nat->List Nat) (tw:List Nat->Addr) (u:List Nat) (c:Nat),vs=[.ref (f u).p,.int c]/\SZ C H Dm S f ks tw/\Dm u/\(∀v c',Dm (v++[c'])->Dm v)/\c<=255/\(¬Dm (u++[c])->S.contains (u++[c])=false)/\
 (Dm (u++[c])->∀H',aZ H H'->Q (.ref (f (u++[c])).p) H')/\
 (¬Dm (u++[c])->∀H' n,H n.p=none->H n.nd=none->mE (f u).nd H H'->SZ C H' (λv=>Dm v\/v=u++[c]) S (CO f (u++[c]) n) (vO ks u c) tw->Q (.ref n.p) H')
theorem UK (u:List Nat)(c:Nat):u≠u++[c]:=λz=>by
 have:=congrArg iI z
 rw[bZ] at this
 simp at this
theorem QG (T:kR K mg A F):Ok P w K mg 3 A.kG F.kG ["branch","letter"] (PY A.cQ):=λbase bb=>by
 refine T.kG.F.ok QA (λvs H Q E h=> ?_) (λcdv Ar outer s H vs Q E hr h=> ?_)
 ·obtain⟨Dm,S,f,ks,tw,u,c,rfl,_⟩:=h
  rfl
 ·obtain⟨Dm,S,f,ks,tw,u,c,rfl,R,hu,closed,hc,hS,k1,k2⟩:=h
  refine⟨_,(aO (gC (LC (Sj (KD hr) (pv 1) (bY (pv 0) rfl))) (aS (Ph (KD hr) (bY (pv 0) rfl) (pv 1) (D9 T.Bs T.cQ T.kK (GK T base bb) hr) rfl)) dN) (aS (bU (Pl (KD hr) (bY (pv 0) rfl) (pv 1) (λ_ _=>rfl))))),?_⟩
  have cl:=T.cQ.cl
  obtain⟨n1,n2⟩:=E9 T
  have hN:=R.node u hu
  have hD:=R.dict u hu
  refine OE (!decide (c∈ks u)) (λR' h=> ?_) (λe=> ?_) (λe=> ?_)
  ·simp_arith [Ox, ↓eY,hN,HO.ins.injEq,cl,n1,Bx]
   refine⟨_,EV.k (k:=eI (c:Int)) hD,?_⟩
   rw[CM]
   by_cases hm:c∈ks u
   ·rw[if_pos hm]
    rw[decide_eq_true hm] at h
    exact h
   ·rw[if_neg hm]
    rw[decide_eq_false hm] at h
    exact h
  ·have hm:c ∉ ks u:=of_decide_eq_false (Pr e)
   have hDm:¬Dm (u++[c]):=λz=>hm ((R.keys u hu c).mpr z)
   simp_arith [Wc, ↓AQ]
   intro x0 dx nx nd ne
   refine UU nx nd ne λH1 n s1 hn nx0 h1 h2=> ?_
   have R1:=R.rel cS s1
   have hN1:=R1.node u hu
   have hD1:=R1.dict u hu
   have hg:EE ((ks u).map (BD f u)) (eI (c:Int))=none:=by rw[CM,if_neg hm]
   have few:=R.few hu
   simp_arith [↓eY,hN1,HO.ins.injEq,cl,n1,Bx]
   refine⟨_,Ko.k (k:=eI (c:Int)) hD1 (by rw[aA,aX];omega),?_⟩
   rw[Ia _ hg]
   have hne1:(f u).p≠(f u).nd:=eK hN1 hD1 (by intro z;cases z)
   have hux:x0≠(f u).nd:=eK h1 hD1 (by intro z;cases z)
   have hun:n≠(f u).nd:=λz=>by rw[z,hD] at hn;cases hn
   have hkv:(ks u).map (BD f u)++[(eI (c:Int),V.ref x0)]=(vO ks u c u).map (BD (CO f (u++[c]) ⟨x0,dx,n⟩) u):=by
    unfold vO
    rw[if_pos rfl,cC]
    congr 1
    ·apply dD
     intro c' hc'
     unfold BD CO
     rw[if_neg (λz=>hm (by have:=HI z;simp at this;rw[<-this];exact hc'))]
    ·unfold BD CO
     rw[aJ,mL,if_pos rfl]
   rw[hkv]
   have b2:mE (f u).nd H (L2.upd H1 (f u).nd (.dK ((vO ks u c u).map (BD (CO f (u++[c]) ⟨x0,dx,n⟩) u)))):=mE.andU λe o he hne=>s1 _ _ he
   have hD2:(L2.upd H1 (f u).nd (.dK ((vO ks u c u).map (BD (CO f (u++[c]) ⟨x0,dx,n⟩) u)))) (f u).nd=some (.dK ((vO ks u c u).map (BD (CO f (u++[c]) ⟨x0,dx,n⟩) u))):=aK
   have hx2:(L2.upd H1 (f u).nd (.dK ((vO ks u c u).map (BD (CO f (u++[c]) ⟨x0,dx,n⟩) u)))) x0=some (.ins A.cQ dx (m9 n .non)):=by rw[aM hux];exact h1
   have hn2:(L2.upd H1 (f u).nd (.dK ((vO ks u c u).map (BD (CO f (u++[c]) ⟨x0,dx,n⟩) u)))) n=some (.dK []):=by rw[aM hun];exact h2
   generalize L2.upd H1 (f u).nd (.dK ((vO ks u c u).map (BD (CO f (u++[c]) ⟨x0,dx,n⟩) u)))=H2 at b2 hD2 hx2 hn2 ⊢
   have hN2:=b2 _ _ hN hne1
   have fo:∀v,Dm v->CO f (u++[c]) ⟨x0,dx,n⟩ v=f v:=λv hv=>by
    unfold CO
    rw[if_neg (λz=>hDm (by rw[<-z];exact hv))]
   have fn:CO f (u++[c]) ⟨x0,dx,n⟩ (u++[c])=⟨x0,dx,n⟩:=if_pos rfl
   have T2:SZ A.cQ H2 (λv=>Dm v\/v=u++[c]) S (CO f (u++[c]) ⟨x0,dx,n⟩) (vO ks u c) tw:=by
    refine⟨?_,?_,?_,?_,?_,?_,?_,?_⟩
    ·rintro v (hv | rfl)
     ·rw[fo v hv]
      exact b2 _ _ (R.node v hv) (eK (R.node v hv) hD (by intro z;cases z))
     ·rw[fn,hS hDm]
      exact hx2
    ·rintro v (hv | rfl)
     ·rw[fo v hv]
      by_cases e0:v=u
      ·subst e0
       exact hD2
      ·have hk:vO ks u c v=ks v:=by
        unfold vO
        rw[if_neg e0,if_neg (λz=>hDm (by rw[<-z];exact hv))]
       rw[hk,b2 _ _ (R.dict v hv) (λz=>e0 (R.injd v u hv hu z))]
       congr 2
       apply dD
       intro c' hc'
       unfold BD
       rw[fo _ ((R.keys v hv c').mp hc')]
     ·rw[fn]
      have hk:vO ks u c (u++[c])=[]:=by
       unfold vO
       rw[if_neg (fE (UK u c)),if_pos rfl]
      rw[hk]
      exact hn2
    ·rintro v (hv | rfl) c'
     ·by_cases e0:v=u
      ·subst e0
       unfold vO
       rw[if_pos rfl,cW,R.keys v hv c',cP]
       constructor
       ·rintro(h | h)
        ·exact .inl h
        ·exact .inr (by rw[h])
       ·rintro(h | h)
        ·exact .inl h
        ·exact .inr (by have:=HI h;simpa using this)
      ·have hk:vO ks u c v=ks v:=by
        unfold vO
        rw[if_neg e0,if_neg (λz=>hDm (by rw[<-z];exact hv))]
       rw[hk,R.keys v hv c']
       constructor
       ·exact .inl
       ·rintro(h | h)
        ·exact h
        ·exact absurd (wC h rfl) e0
     ·have hk:vO ks u c (u++[c])=[]:=by
       unfold vO
       rw[if_neg (fE (UK u c)),if_pos rfl]
      rw[hk]
      constructor
      ·intro h;simp at h
      ·rintro(h | h)
       ·exact absurd (closed (u++[c]) c' h) hDm
       ·exact absurd (wC h rfl) (fE (UK u c))
    ·rintro v (hv | rfl)
     ·by_cases e0:v=u
      ·subst e0
       unfold vO
       rw[if_pos rfl]
       exact YU.mpr ⟨R.nd v hv,by simp,λa ha b hb z=>by
        have:b=c:=by simpa using hb
        exact hm (by rw[<-this, <-z];exact ha)⟩
      ·have hk:vO ks u c v=ks v:=by
        unfold vO
        rw[if_neg e0,if_neg (λz=>hDm (by rw[<-z];exact hv))]
       rw[hk]
       exact R.nd v hv
     ·unfold vO
      rw[if_neg (fE (UK u c)),if_pos rfl]
      exact nM
    ·intro v hv
     exact b2 _ _ (R.tup v hv) (eK (R.tup v hv) hD (by intro z;cases z))
    ·rintro v w (hv | rfl) (hw | rfl) e
     ·rw[fo v hv,fo w hw] at e
      exact R.inj v w hv hw e
     ·rw[fo v hv,fn] at e
      exact absurd (R.node v hv) (by rw[e,nx];simp)
     ·rw[fo w hw,fn] at e
      exact absurd (R.node w hw) (by rw[<-e,nx];simp)
     ·rfl
    ·rintro v w (hv | rfl) (hw | rfl) e
     ·rw[fo v hv,fo w hw] at e
      exact R.injd v w hv hw e
     ·rw[fo v hv,fn] at e
      exact absurd (R.dict v hv) (by rw[e,hn];simp)
     ·rw[fo w hw,fn] at e
      exact absurd (R.dict w hw) (by rw[<-e,hn];simp)
     ·rfl
    ·rintro v (hv | rfl)
     ·exact R.cap v hv
     ·intro x hx
      rcases cW.mp hx with hx | hx
      ·exact R.cap u hu x hx
      ·rw[cP.mp hx];exact hc
   simp_arith [Oy, ↓eY,hN2,HO.ins.injEq,cl,n1,Bx]
   refine⟨.ref x0,?_,k2 hDm H2 ⟨x0,dx,n⟩ nx hn b2 T2⟩
   have z:=EV.k (k:=eI (c:Int)) hD2
   rw[CM,if_pos (by unfold vO;rw[if_pos rfl];simp),fn] at z
   exact z
  ·have hm:c∈ks u:=of_decide_eq_true (Mr e)
   have hDm:=(R.keys u hu c).mp hm
   simp_arith [Oy, ↓eY,hN,HO.ins.injEq,cl,n1,Bx]
   refine⟨_,?_,k1 hDm _ (aZ.refl H)⟩
   have z:=EV.k (k:=eI (c:Int)) hD
   rw[CM,if_pos hm] at z
   exact z
theorem tT:bV ["words","root","word","branch","letter"] ["words"] (defScope Ba):=⟨rfl,rfl,rfl,by decide+kernel,rfl,by decide+kernel,by decide+kernel⟩
def uB (S:List (List Nat))(u:List Nat):Prop:=u=[]\/∃w∈S,u <+:w
def VB (C:Addr):Sp:=λvs H Q _=>∃(dw:Addr) (ws:List (List Nat)),vs=[.ref dw]/\H dw=some (.dT (mJ ws))/\(∀w∈ws,∀c∈w,c<=255)/\
 ∀H' f ks tw,aZ H H'->SZ C H' (uB ws) ws f ks tw->Q (.ref (f []).p) H'
theorem Gq {C:Addr}{H:Hp}{Q:VK}{E:XK}{dw:Addr}{ws:List (List Nat)}(h:H dw=some (.dT (mJ ws)))(hw:∀w∈ws,∀c∈w,c<=255)(k:∀H' f ks tw,aZ H H'->SZ C H' (uB ws) ws f ks tw->Q (.ref (f []).p) H'):VB C [.ref dw] H Q E:=⟨dw,ws,rfl,h,hw,k⟩
theorem k9 (w:List Nat):(QP w).map kV=cT w:=by
 unfold QP cT
 rw[bR];rfl
theorem SZ.dm {C:Addr}{H:Hp}{Dm Dm':List Nat->Prop}{S:List (List Nat)}{f:List Nat->oB}{ks:List Nat->List Nat}{tw:List Nat->Addr}(t:SZ C H Dm S f ks tw)(e:∀u,Dm u↔Dm' u):SZ C H Dm' S f ks tw:=by
 have:Dm=Dm':=funext λu=>propext (e u)
 rw[<-this];exact t
theorem Ih {u v:List Nat}{c:Nat}:v <+:u++[c]↔v <+:u\/v=u++[c]:=by
 rw[List.prefix_concat_iff]
 exact⟨λh=>h.symm,λh=>h.symm⟩
def RJ (S:List (List Nat))(p:List Nat)(u:List Nat):Prop:=uB S u\/u <+:p
theorem Ii {S:List (List Nat)}{p v:List Nat}{c:Nat}(h:RJ S p (v++[c])):RJ S p v:=by
 rcases h with(h | ⟨w,hw,h⟩) | h
 ·exact absurd h (by simp)
 ·exact .inl (.inr ⟨w,hw,(tG v [c]).trans h⟩)
 ·exact .inr ((tG v [c]).trans h)
theorem SZ.mark {C:Addr}{H:Hp}{Dm:List Nat->Prop}{S:List (List Nat)}{f:List Nat->oB}{ks:List Nat->List Nat}{tw:List Nat->Addr}{w:List Nat}{q:Addr}(t:SZ C H Dm S f ks tw)(hw:Dm w)(hq:H q=some (.tup (cT w)))(v:V):
  SZ C (L2.upd H (f w).p (.ins C (f w).dx (m9 (f w).nd (.ref q)))) Dm (S++[w]) f ks (λu=>if u=w then q else tw u):=by
 have hN:=t.node w hw
 refine⟨λu hu=> ?_,λu hu=> ?_,t.keys,t.nd,λu hu=> ?_,t.inj,t.injd,t.cap⟩
 ·by_cases e:u=w
  ·subst e
   rw[aK,if_pos (by rw[aR];simp),if_pos rfl]
  ·rw[aM (λz=>e (t.inj u w hu hw z)),t.node u hu,if_neg e]
   have:(S++[w]).contains u=S.contains u:=by
    rw[cZ,aR,aR,cW,cP]
    exact⟨λh=>h.resolve_right e,.inl⟩
   rw[this]
 ·rw[aM (eK (t.dict u hu) hN (by intro z;cases z))]
  exact t.dict u hu
 ·by_cases e:u=w
  ·subst e
   rw[if_pos rfl,aM (eK hq hN (by intro z;cases z))]
   exact hq
  ·rw[if_neg e]
   have hu':u∈S:=(cW.mp hu).resolve_right (by simpa using e)
   rw[aM (eK (t.tup u hu') hN (by intro z;cases z))]
   exact t.tup u hu'
theorem Mo (T:kR K mg A F):Ok P w K mg 4 A.yL F.yL ["words"] (VB A.cQ):=λbase bb=>by
 refine T.yL.F.ok tT (λvs H Q E h=> ?_) (λcdv Ar outer s H vs Q E hr h=> ?_)
 ·obtain⟨dw,ws,rfl,_⟩:=h
  rfl
 ·obtain⟨dw,ws,rfl,hd,hw,k⟩:=h
  refine⟨_,(aO (dJ (i:=1) tT.nd rfl (cB rfl) (D9 T.Bs T.cQ T.kK (GK T base bb) hr)) (aO (Pg (tW eP rfl (i3 (pv 0)) (dG (i:=2) tT.nd rfl (cB rfl)) (aO (dJ (i:=3) tT.nd rfl (cB rfl) (pv 1)) (aO (tW eP rfl (E3 (pv 2)) (dG (i:=4) tT.nd rfl (cB rfl)) (aS (dJ (i:=3) tT.nd rfl (cB rfl) (oF T.kG (QG T base bb) hr (aB (pv 3) (aB (pv 4) aL)))))) (aS (gO (pv 3) (pv 2) rfl)))))) (aS (bU (pv 1))))),?_⟩
  have cl:=T.cQ.cl
  obtain⟨n1,n2⟩:=E9 T
  simp_arith only[↓AQ]
  intro x0 dx nx nd ne
  refine UU nx nd ne λH1 n s1 hn nx0 h1 h2=> ?_
  have hd1:=s1 _ _ hd
  have hx0d:x0≠dw:=λz=>by rw[z,hd] at nx;cases nx
  have hnd:n≠dw:=λz=>by rw[z,hd] at hn;cases hn
  have hdx:x0≠dw:=hx0d
  refine⟨dw,_,hd1,trivial,λod=> ?_⟩
  have sL:∀c o,H c=some o->c≠dw->(L2.upd H1 dw (.frz od (.dT (mJ ws)))) c=some o:=λc o e n=>by rw[aM n];exact s1 _ _ e
  refine ck (kvs:=mJ ws) dw (λR h=>h) od
   (λi σ' H'=>∃(f:List Nat->oB) (ks:List Nat->List Nat) (tw:List Nat->Addr) (v2 v3 v4:Option V),σ'=[some (.ref dw),some (.ref x0),v2,v3,v4]/\(f []).p=x0/\H' dw=some (.frz od (.dT (mJ ws)))/\mE dw H H'/\SZ A.cQ H' (uB (ws.reverse.take i)) (ws.reverse.take i) f ks tw/\∀u,uB (ws.reverse.take i) u->H (f u).p=none/\H (f u).nd=none) ?_ ?_ ?_ ?_
  ·have hP:∀u,uB (ws.reverse.take 0) u->u=[]:=λu h=>by
    rcases h with h | ⟨w,hw,_⟩
    ·exact h
    ·simp at hw
   refine⟨λ_=>⟨x0,dx,n⟩,λ_=>[],λ_=>0,none,none,none,rfl,rfl,aK,λc o e n=>sL c o e n,⟨λu hu=> ?_,λu hu=> ?_,λu hu c=> ?_,λu hu=>nM,λu hu=>by simp at hu,λu v hu hv _=>by rw[hP u hu,hP v hv],λu v hu hv _=>by rw[hP u hu,hP v hv],λu hu c hc=>by rw[hP u hu] at hc;simp at hc⟩,λu hu=>⟨nx,hn⟩⟩
   ·rw[aM hx0d];exact h1
   ·rw[aM hnd];exact h2
   ·constructor
    ·intro h;simp at h
    ·intro h
     have:=hP _ h
     simp at this
  ·rintro i σ' H' ⟨f,ks,tw,v2,v3,v4,rfl,e0,g1,_⟩
   exact g1
  ·rintro i kk vv q σ' H' hk ⟨f,ks,tw,v2,v3,v4,rfl,e0,g1,g2,g3,g4⟩ hq
   obtain⟨w,hwi,rfl⟩:∃w,ws.reverse[i]? =some w/\kk=QP w:=by
    unfold mJ at hk
    rw[aP] at hk
    obtain⟨w,h1,h2⟩:=cK.mp hk
    cases h2
    exact⟨w,h1,rfl⟩
   rw[k9] at hq
   have hwm:w∈ws:=jM.mp (aY hwi)
   have ht:ws.reverse.take (i+1)=ws.reverse.take i++[w]:=by rw[jV,hwi];rfl
   rw[ht]
   generalize ws.reverse.take i=S at g3 g4 ⊢
   simp_arith only
   refine cg (xs:=w) (λc:Nat=>V.int c) q (λR h=>h)
    (λj σ'' H''=>∃(f:List Nat->oB) (ks:List Nat->List Nat) (tw:List Nat->Addr) (v4:Option V),σ''=[some (.ref dw),some (.ref x0),some (.ref q),some (.ref (f (w.take j)).p),v4]/\(f []).p=x0/\H'' dw=some (.frz od (.dT (mJ ws)))/\mE dw H H''/\SZ A.cQ H'' (RJ S (w.take j)) S f ks tw/\(∀u,RJ S (w.take j) u->H (f u).p=none/\H (f u).nd=none)/\H'' q=some (.tup (cT w))) ?_ ?_ ?_ ?_
   ·have hJ:∀u,uB S u↔RJ S (w.take 0) u:=λu=>⟨.inl,λh=>h.elim id λh=>.inl (List.prefix_nil.mp h)⟩
    refine⟨f,ks,tw,v4,?_,e0,g1,g2,g3.dm hJ,λu hu=>g4 u ((hJ u).mpr hu),hq⟩
    show _=[_,_,_,some (V.ref (f []).p),_]
    rw[e0]
   ·rintro j σ'' H'' ⟨f,ks,tw,v4,rfl,_,_,_,_,_,g6⟩
    exact .inl (.inl g6)
   ·rintro j c σ'' H'' hc ⟨f,ks,tw,v4,rfl,e1,a1,a2,a3,a4,a6⟩
    have htj:w.take (j+1)=w.take j++[c]:=by rw[jV,hc];rfl
    have hu:RJ S (w.take j) (w.take j):=.inr (wR _)
    have hDd:=a3.dict _ hu
    have fr:=a4 _ hu
    simp_arith
    rw[htj]
    generalize w.take j=u at a3 a4 hu hDd fr ⊢
    refine⟨RJ S u,S,f,ks,tw,u,c,rfl,a3,hu,λv c' h=>Ii h,hw w hwm c (aY hc),λh=> ?_,λh H2 s2=> ?_,λh H2 n f1 f2 b2 t2=> ?_⟩
    ·cases z:S.contains (u++[c]) with
     | false=>rfl
     | true=>exact absurd (.inl (.inr ⟨_,aR.mp z,wR _⟩)) h
    ·have hJ:∀v,RJ S u v↔RJ S (u++[c]) v:=λv=>by
      constructor
      ·rintro(h' | h')
       ·exact .inl h'
       ·exact .inr (h'.trans (tG _ _))
      ·rintro(h' | h')
       ·exact .inl h'
       ·rcases Ih.mp h' with h' | rfl
        ·exact .inr h'
        ·exact h
     exact⟨f,rfl,e1,s2 _ _ a1,(λe o he n=>s2 _ _ (a2 e o he n)),ks,tw,(a3.rel cS s2).dm hJ,(λv hv=>a4 v ((hJ v).mpr hv)),s2 _ _ a6⟩
    ·have hJ:∀v,(RJ S u v\/v=u++[c])↔RJ S (u++[c]) v:=λv=>by
      constructor
      ·rintro((h' | h') | rfl)
       ·exact .inl h'
       ·exact .inr (h'.trans (tG _ _))
       ·exact .inr (wR _)
      ·rintro(h' | h')
       ·exact .inl (.inl h')
       ·rcases Ih.mp h' with h' | rfl
        ·exact .inl (.inr h')
        ·exact .inr rfl
     have back:∀a,H'' a=none->H a=none:=λa ha=>by
      cases z:H a with
      | none=>rfl
      | some o=>
       by_cases e:a=dw
       ·rw[e,a1] at ha;cases ha
       ·rw[a2 a o z e] at ha;cases ha
     have hdn:dw≠(f u).nd:=eK a1 hDd (by intro z;cases z)
     have hqn:q≠(f u).nd:=eK a6 hDd (by intro z;cases z)
     refine⟨CO f (u++[c]) n,?_,?_,b2 _ _ a1 hdn,(λe o he hne=>b2 _ _ (a2 e o he hne) (λz=>by rw[z,fr.2] at he;cases he)),vO ks u c,tw,t2.dm hJ,(λv hv=> ?_),b2 _ _ a6 hqn⟩
     ·unfold CO;rw[if_pos rfl]
     ·unfold CO;rw[if_neg (by simp)];exact e1
     ·rcases(hJ v).mpr hv with hv | rfl
      ·by_cases e:v=u++[c]
       ·exact absurd (by rw[<-e];exact hv) h
       ·unfold CO;rw[if_neg e];exact a4 v hv
      ·unfold CO;rw[if_pos rfl];exact⟨back _ f1,back _ f2⟩
   ·rintro σ'' H'' ⟨f,ks,tw,v4,rfl,e1,a1,a2,a3,a4,a6⟩
    rw[qR] at a3 a4 ⊢
    have hwD:RJ S w w:=.inr (wR _)
    have hN:=a3.node _ hwD
    dsimp only
    refine HY (i:=3) (p:=(f w).p) (dx:=(f w).dx) (fs:=m9 (f w).nd (if S.contains w=true then .ref (tw w) else .non)) (λv H1=>v=.ref q/\H1=H'') rfl cl n2 (by show 2 < 1000;decide) (λR h=> ?_) (λv H1 g=>by rw[g.2];exact hN) ?_
    ·simp_arith
     exact h _ _ ⟨rfl,rfl⟩
    rintro _ H1 ⟨rfl,e⟩
    rw[e]
    have hJ:∀v,RJ S w v↔uB (S++[w]) v:=λv=>by
     constructor
     ·rintro((h' | ⟨w',h1,h2⟩) | h')
      ·exact .inl h'
      ·exact .inr ⟨w',iG _ h1,h2⟩
      ·exact .inr ⟨w,by simp,h'⟩
     ·rintro(h' | ⟨w',h1,h2⟩)
      ·exact .inl (.inl h')
      ·rcases cW.mp h1 with h1 | h1
       ·exact .inl (.inr ⟨w',h1,h2⟩)
       ·rw[cP.mp h1] at h2
        exact .inr h2
    have hdn:dw≠(f w).p:=eK a1 hN (by intro z;cases z)
    refine⟨f,ks,_,_,_,_,rfl,e1,by rw[aM hdn];exact a1,λe o he hne=> ?_,(a3.mark hwD a6 .non).dm hJ,λu hu=>a4 u ((hJ u).mpr hu)⟩
    rw[aM (λz=>by rw[z,(a4 w hwD).1] at he;cases he)]
    exact a2 e o he hne
  ·rintro σ' H' ⟨f,ks,tw,v2,v3,v4,rfl,e0,g1,g2,g3,g4⟩
   have htl:ws.reverse.take (mJ ws).length=ws.reverse:=by
    apply gM
    unfold mJ
    rw[aA];exact aU _
   rw[htl] at g3
   refine⟨g1,?_⟩
   simp_arith
   rw[<-e0]
   refine k _ f ks tw (λc o e=> ?_) ?_
   ·by_cases z:c=dw
    ·rw[z,aK]
     rw[z,hd] at e
     exact e
    ·rw[aM z];exact g2 c o e z
   ·have hJ:∀v,uB ws.reverse v↔uB ws v:=λv=>by
     constructor
     ·rintro(h | ⟨w,h1,h2⟩)
      ·exact .inl h
      ·exact .inr ⟨w,jM.mp h1,h2⟩
     ·rintro(h | ⟨w,h1,h2⟩)
      ·exact .inl h
      ·exact .inr ⟨w,jM.mpr h1,h2⟩
    have t1:=g3.dm hJ
    refine⟨λu hu=> ?_,λu hu=> ?_,t1.keys,t1.nd,λu hu=> ?_,t1.inj,t1.injd,t1.cap⟩
    ·rw[aM (eK (t1.node u hu) g1 (by intro z;cases z)),t1.node u hu]
     have:ws.reverse.contains u=ws.contains u:=by
      rw[cZ,aR,aR,jM]
     rw[this]
    ·rw[aM (eK (t1.dict u hu) g1 (by intro z;cases z))]
     exact t1.dict u hu
    ·have hu':u∈ws.reverse:=jM.mpr hu
     rw[aM (eK (t1.tup u hu') g1 (by intro z;cases z))]
     exact t1.tup u hu'
end
def K6:List Nat:=(bA 26).map λi=>65+i
def ZV (rk:List Nat):List Nat:=K6.filter λc=>rk.contains c || rk.contains 63
def qX (r:List Nat)(c:Nat):Option (List Nat):=if r.contains c=true then some (r.erase c) else if r.contains 63=true then some (r.erase 63) else none
theorem To (r:List Nat)(c:Nat):r.erase c=r.take (r.idxOf c)++r.drop (r.idxOf c+1):=by
 induction r with
 | nil=>rfl
 | cons a r ih=>
  rw[KO,KN]
  cases h:(a==c)
  ·simp[ih]
  ·simp
theorem Cb {y:Nat}:∀{ns:List Nat} {m:Nat},ns[m]? =some y->ns.idxOf y<=m
 | [],m,h=>by simp at h
 | a::ns,m,h=>by
  rw[KN]
  cases m with
  | zero=>
   have:a=y:=by simpa using h
   simp[this]
  | succ m=>
   have:=Cb (ns:=ns) (m:=m) (by simpa using h)
   cases hc:(a==y) <;> simp[hc]
   exact this
theorem Xl (rk:List Nat):(ZV rk).length<=26:=cV (jI _ _) (by unfold K6;simp)
section
variable {Rl:Hp->Hp->Prop}{K:PySem.W.Frag}{g:TG}{tt:TT}{te:TE}{vs:List Nat}{σ:L2.St}{H:Hp}{Q:VK}
theorem bw {ta:TA}{lo n:Nat}(R:RC Rl)(keep:Nat->Bool)(G:Nat->V->Hp->Prop)(hta:∀R:List V->Hp->Prop,R [.int (lo:Int),.int ((lo+n:Nat):Int)] H->ta σ H R)(hz:lo+n<=sizeLine)
  (hs:∀D,H D=none->∀(i:Nat) H',i < n->Rl H H'->Kj Rl keep G g tt te vs σ D (lo+i) H' (.int ((lo+i:Nat):Int)) H')
  (hd:∀D H' ys,H D=none->Rl H H'->H' D=some (.lst ys)->Paired (λx y=>G x y H') (((bA n).map λi=>lo+i).filter keep) ys->Q (.ref D) H'):Uu (Xx ta) g tt te vs σ H Q:=by
 have hs2:sizeLine=16777216:=aX
 refine hta _ ⟨lo,(lo+n:Nat),rfl,⟨by omega,by omega,by omega,by omega⟩,λD hD=> ?_⟩
 have e0:(((lo+n:Nat):Int) - (lo:Int)).toNat=n:=by omega
 rw[e0]
 have hl:((bA n).map λi=>lo+i).length=n:=by rw[aA,cR]
 refine U4 R ((bA n).map λi=>lo+i) keep G hD (by omega) (λi H' hi r=>by rw[hl] at hi;exact hi) (λH' r=>by rw[hl];exact aU n) (λi x H' acc Nx hx r hy hz' ad v H'' y=> ?_) λH' ys r hy hp=>hd D H' ys hD r hy hp
 obtain⟨rfl,rfl⟩:=y
 have hi:i < n:=by rw[<-hl];exact(bL.mp hx).1
 rw[aP,iU hi] at hx
 cases hx
 have e1:(lo:Int)+(i:Int)=((lo+i:Nat):Int):=by omega
 rw[e1]
 exact hs D hD i H'' hi r acc Nx hy hz' ad
end
section
variable {P:bS}{w:cY}{K:PySem.W.Frag}{mg:Str->Option aC}{A:Ad}{F:Fd}
abbrev MA:List Str:=["rack","letter"]
theorem qG:bV ["rack","letter"] ["rack"] (defScope sH):=⟨rfl,rfl,rfl,by decide+kernel,rfl,by decide+kernel,by decide+kernel⟩
def xF (K:PySem.W.Frag):Sp:=λvs H Q _=>∃(a:Addr) (rk:List Nat),vs=[.ref a]/\dX K H a (cT rk)/\∀H' q,aZ H H'->H q=none->H' q=some (.lst (cT (ZV rk)))->Q (.ref q) H'
theorem II {K:PySem.W.Frag}{H:Hp}{Q:VK}{E:XK}{a:Addr}{rk:List Nat}(h:dX K H a (cT rk))(k:∀H' q,aZ H H'->H q=none->H' q=some (.lst (cT (ZV rk)))->Q (.ref q) H'):xF K [.ref a] H Q E:=⟨a,rk,rfl,h,k⟩
theorem LI (T:kR K mg A F):Ok P w K mg 1 A.iM F.iM ["rack"] (xF K):=λbase bb=>by
 refine T.iM.F.ok qG (λvs H Q E h=> ?_) (λcdv Ar outer s H vs Q E hr h=> ?_)
 ·obtain⟨a,rk,rfl,_⟩:=h
  rfl
 ·obtain⟨a,rk,rfl,h,k⟩:=h
  refine⟨_,(aS (bU (tI rfl qG.nd (Bl rfl T.wN (aB (fF rfl T.HA) (aB (eL jR (fF rfl T.SX) dS) aL))) (fN (N:=MA) (sc:=defScope sH) (own:=[("letter",1)]) (by decide+kernel)) (λ_ _ _ _ _=>(dG (i:=1) qG.nd rfl (cB rfl))) (λ_ _ _ _ _=>sI (PW.pt (Hz (eB (WL (K:=K) rfl) (pv 1) (pv 0) (by with_unfolding_all rfl)) (WA (eB (WL (K:=K) rfl) (fF rfl T.ON) (pv 0) (by with_unfolding_all rfl)))))) (λ_ _ _ _ _=>(pv 1))))),?_⟩
  simp_arith
  refine bw (lo:=65) (n:=26) cS (λc=>rk.contains c || rk.contains 63) (λc v H'=>v=.int (c:Nat)) (λR h=> ?_) (by rw[aX];decide) ?_ ?_
  ·simp_arith
   exact h
  ·intro D hD i H' hi s1 acc Nx hacc hz ad
   have h1:=s1.seq h
   simp_arith
   refine⟨a,_,rfl,.inl h1,rfl,sU _,Kh ?_⟩
   rw[GV]
   cases e1:rk.contains (65+i) with
   | true=>
    simp
    exact ad.add (by rw[e1];rfl) hacc hz cS (aZ.refl _) λH5 _=>rfl
   | false=>
    simp
    refine⟨a,_,rfl,.inl h1,rfl,sU _,?_⟩
    rw[show G9 (.int 63) (cT rk)=rk.contains 63 from GV (c:=63)]
    cases e2:rk.contains 63 with
    | true=>
     simp
     exact ad.add (by rw[e1,e2];rfl) hacc hz cS (aZ.refl _) λH5 _=>rfl
    | false=>
     simp
     exact ad.no (by rw[e1,e2];rfl) _ (aZ.refl _)
  ·intro D H' ys hD s1 hy hp
   refine k H' D s1 hD ?_
   rw[hy,AR hp]
   rfl
theorem vF:bV ["rack","letter","taken","place"] ["rack","letter"] (defScope FS):=⟨rfl,rfl,rfl,by decide+kernel,rfl,by decide+kernel,by decide+kernel⟩
def DF (K:PySem.W.Frag):Sp:=λvs H Q _=>∃(a:Addr) (rk:List Nat) (c:Nat),vs=[.ref a,.int c]/\dX K H a (cT rk)/\rk.length<=7/\(qX rk c=none->∀H',aZ H H'->Q .non H')/\∀r,qX rk c=some r->∀H' q,aZ H H'->H q=none->H' q=some (.lst (cT r))->Q (.ref q) H'
theorem PN {K:PySem.W.Frag}{H:Hp}{Q:VK}{E:XK}{a:Addr}{rk:List Nat}{c:Nat}(h:dX K H a (cT rk))(hn:rk.length<=7)(k1:qX rk c=none->∀H',aZ H H'->Q .non H')(k2:∀r,qX rk c=some r->∀H' q,aZ H H'->H q=none->H' q=some (.lst (cT r))->Q (.ref q) H'):DF K [.ref a,.int c] H Q E:=⟨a,rk,c,rfl,h,hn,k1,k2⟩
theorem TV (T:kR K mg A F):Ok P w K mg 1 A.lI F.lI ["rack","letter"] (DF K):=λbase bb=>by
 refine T.lI.F.ok vF (λvs H Q E h=> ?_) (λcdv Ar outer s H vs Q E hr h=> ?_)
 ·obtain⟨a,rk,c,rfl,_⟩:=h
  rfl
 ·obtain⟨a,rk,c,rfl,h,hn,k1,k2⟩:=h
  refine⟨_,(aO (dJ (i:=2) vF.nd rfl (cB rfl) (kP (eB HV (pv 1) (pv 0) (by with_unfolding_all rfl)) (pv 1) (fF rfl T.ON))) (aO (gC (eB CC (pv 2) (pv 0) (by with_unfolding_all rfl)) (aS (bU Ee)) dN) (aO (dJ (i:=3) vF.nd rfl (cB rfl) (JU PySem.F.plainAttrs_list PySem.F.slot_list_index PySem.F.type_list_index Xb (pv 0) (aB (pv 2) aL))) (aS (bU (eL GE (NM UH (pv 0) Pi (HQ (pv 3))) (NM UH (pv 0) (HQ (eL jR (pv 3) dS)) Pi))))))),?_⟩
  simp_arith only
  have key:∀t:Nat,qX rk c=(if rk.contains t=true then some (rk.erase t) else none)->Lr (Ow (x4 (Y2 K true) (IJ 2) (IJ 0))) (Zy (tC V.non)) Aq
   { nx:=Sb (Vw (Z9 K "list" (Wj K) (IJ 0) (Vu (IJ 2) ZI)) (GU 3)) (Zy (x4 R6 (P0 (Sg K) (IJ 0) UC (Ap (IJ 3))) (P0 (Sg K) (IJ 0) (Ap (x4 (Wk λi j=>V.int (i+j)) (IJ 3) (tC (V.int 1)))) UC))) { nx:=λx H'=>Q V.non H',rt:=Q },rt:=Q }
   [some (V.ref a),some (V.int (c:Nat)),some (V.int (t:Nat)),none] H:=by
   intro t e
   refine cc (!rk.contains t) (λR h'=> ?_) (λhc=> ?_) (λhc=> ?_)
   ·simp_arith
    refine⟨a,_,rfl,.inl h,rfl,sU _,Kh ?_⟩
    rw[GV]
    simpa using h'
   ·rw[if_neg (by rw[Pr hc];simp)] at e
    simp_arith
    exact k1 e _ (aZ.refl H)
   ·have hc':rk.contains t=true:=Mr hc
    rw[if_pos hc'] at e
    have hm:t∈rk:=aR.mp hc'
    have hlt:rk.idxOf t < rk.length:=Oh.mpr hm
    have hat:rk[rk.idxOf t]? =some t:=by rw[aE hlt,u9 hlt]
    simp_arith [Aq,P0,Ap,UC,Sg]
    refine⟨.inl ⟨rfl,_,h⟩,a,cT rk,.int (t:Nat),rk.idxOf t,.int (t:Nat),rfl,rfl,h,rfl,sU _,?_,?_,λm z' hmj hz'=> ?_,?_⟩
    ·unfold cT
     rw[aP,hat];rfl
    ·show((t:Int)==(t:Int))=true
     simp
    ·unfold cT at hz'
     rw[aP] at hz'
     obtain⟨x,hx,rfl⟩:=cK.mp hz'
     show((x:Int)==(t:Int))=false
     rw[beq_eq_false_iff_ne]
     intro z
     have:x=t:=oC z
     rw[this] at hx
     have:=Cb hx
     omega
    ·refine⟨_,rfl,_,h,λp1 hp1=> ?_⟩
     have s1:aZ H (L2.upd H p1 (.lst (QT (cT rk) none (some ((rk.idxOf t:Nat):Int))))):=aZ.upd hp1
     refine⟨_,s1.seq h,λp2 hp2=> ?_⟩
     have c1:QT (cT rk) none (some ((rk.idxOf t:Nat):Int))=cT (rk.take (rk.idxOf t)):=by
      unfold QT
      rw[HT.sIx_none,HT.sIx_nat,X5,fX]
      unfold cT
      rw[TF]
      congr 1
      omega
     have e1:((rk.idxOf t:Nat):Int)+1=((rk.idxOf t+1:Nat):Int):=by omega
     have c2:QT (cT rk) (some (((rk.idxOf t:Nat):Int)+1)) none=cT (rk.drop (rk.idxOf t+1)):=by
      unfold QT
      rw[e1,HT.sIx_none,HT.sIx_nat,fX]
      unfold cT
      rw[TH,LZ (by omega)]
      apply gM
      rw[qS,aA]
      exact aU _
     rw[c1] at s1 hp2 ⊢
     rw[c2]
     refine⟨p1,p2,_,_,rfl,rfl,by rw[aM (bJ aK hp2)];exact aK,aK,?_,λp3 hp3=> ?_⟩
     ·rw[fX,fX,iH,qS,aX];omega
     ·refine k2 _ e _ _ ((s1.trans (aZ.upd hp2)).trans (aZ.upd hp3)) ((s1.trans (aZ.upd hp2)).free hp3) ?_
      rw[aK,To]
      unfold cT
      rw[cC]
  refine⟨a,_,rfl,.inl h,rfl,sU _,Kh ?_⟩
  rw[GV]
  by_cases hc:rk.contains c=true
  ·rw[if_pos (by simpa using hc)]
   exact key c (by unfold qX;rw[if_pos hc,if_pos hc])
  ·rw[if_neg (by simpa using hc)]
   exact key 63 (by unfold qX;rw[if_neg hc])
end
abbrev EA:=List Nat×List Nat
def Yt (K:PySem.W.Frag)(H:Hp)(f:List Nat->oB)(ov:Addr)(t:Addr)(z:EA):Prop:=∃ra,ra≠ov/\H t=some (.tup [.ref (f z.1).p,.ref ra])/\dX K H ra (cT z.2)
structure BH (K:PySem.W.Frag)(H:Hp)(f:List Nat->oB)(ov:Addr)(a:Addr)(zs:List (Addr×EA)):Prop where
 at_:dX K H a (zs.map λz=>V.ref z.1)
 each:∀z∈zs,Yt K H f ov z.1 z.2
theorem Yt.rel {Rl:Hp->Hp->Prop}(R:RC Rl){K:PySem.W.Frag}{H H':Hp}{f:List Nat->oB}{ov t:Addr}{z:EA}(h:Yt K H f ov t z)(e:Rl H H'):Yt K H' f ov t z:=let ⟨ra,h0,h1,h2⟩:=h;⟨ra,h0,R.k e h1 rfl,R.seq e h2⟩
theorem BH.rel {Rl:Hp->Hp->Prop}(R:RC Rl){K:PySem.W.Frag}{H H':Hp}{f:List Nat->oB}{ov a:Addr}{zs:List (Addr×EA)}(h:BH K H f ov a zs)(e:Rl H H'):BH K H' f ov a zs:=⟨R.seq e h.at_,λz hz=>(h.each z hz).rel R e⟩
theorem C8 {Rl:Hp->Hp->Prop}(R:RC Rl){K:PySem.W.Frag}{H H4 H5:Hp}{a D:Addr}{xs:List V}(q:dX K H a xs)(hD:H D=none)(e:Rl H H4)(b:Bt D H4 H5):dX K H5 a xs:=by
 rcases q with(q | ⟨o,q⟩) | q
 ·exact .inl (.inl (b _ _ (R.k e q rfl) (bJ q hD) rfl))
 ·exact .inl (.inr ⟨o,b _ _ (R.k e q rfl) (bJ q hD) rfl⟩)
 ·exact .inr q
theorem mE.seqD {K:PySem.W.Frag}{g a:Addr}{kvs:List (mX×V)}{H H1:Hp}{xs:List V}(h:mE g H H1)(hg:H g=some (.dK kvs))(q:dX K H a xs):dX K H1 a xs:=by
 rcases q with(q | ⟨o,q⟩) | q
 ·exact .inl (.inl (h _ _ q (eK q hg (by intro z;cases z))))
 ·exact .inl (.inr ⟨o,h _ _ q (eK q hg (by intro z;cases z))⟩)
 ·exact .inr q
def MP (ks:List Nat->List Nat)(c:Nat)(wl:List EA):List EA:=(wl.filter λz=>(ks z.1).contains c).map λz=>(z.1++[c],z.2)
def yA (lt:List Nat)(z:EA)(l:Nat):Option EA:=if lt.contains l=true then(qX z.2 l).map λr=>(z.1++[l],r) else none
def qY (ks:List Nat->List Nat)(lt:List Nat)(wl:List EA):List EA:=wl.flatMap λz=>(ks z.1).filterMap (yA lt z)
def JD (b:List Nat)(ks:List Nat->List Nat)(c:fU)(lt:List Nat)(wl:List EA):List EA:=if lR b c=true then qY ks lt wl else MP ks (aQ (aH b c.1 c.2)) wl
section
variable {P:bS}{w:cY}{K:PySem.W.Frag}{mg:Str->Option aC}{A:Ad}{F:Fd}
abbrev IY:List Str:=["ways","letter","branch","rack"]
theorem mC:bV ["ways","letter","branch","rack"] ["ways","letter"] (defScope qJ):=⟨rfl,rfl,rfl,by decide+kernel,rfl,by decide+kernel,by decide+kernel⟩
def IK (K:PySem.W.Frag)(C:Addr):Sp:=λvs H Q _=>∃(a:Addr) (c:Nat) (Dm:List Nat->Prop) (S:List (List Nat)) (f:List Nat->oB) (ks:List Nat->List Nat) (tw:List Nat->Addr) (zs:List (Addr×EA)) (ov:Addr),vs=[.ref a,.int c]/\SZ C H Dm S f ks tw/\BH K H f ov a zs/\(∀z∈zs,Dm z.2.1)/\zs.length<=sizeLine/\
 ∀H' q zs',aZ H H'->H q=none->H' q=some (.lst (zs'.map λz=>V.ref z.1))->BH K H' f ov q zs'->zs'.map (λz=>z.2)=MP ks c (zs.map λz=>z.2)->Q (.ref q) H'
theorem IP (T:kR K mg A F):Ok P w K mg 1 A.gU F.gU ["ways","letter"] (IK K A.cQ):=λbase bb=>by
 refine T.gU.F.ok mC (λvs H Q E h=> ?_) (λcdv Ar outer s H vs Q E hr h=> ?_)
 ·obtain⟨a,c,Dm,S,f,ks,tw,zs,ov,rfl,_⟩:=h
  rfl
 ·obtain⟨a,c,Dm,S,f,ks,tw,zs,ov,rfl,R,W,hDm,hz,k⟩:=h
  refine⟨_,(aS (bU (tI rfl mC.nd (iY (pv 0)) (fN (N:=IY) (sc:=defScope qJ) (own:=[("branch",2),("rack",3)]) (by decide+kernel)) (λ_ _ _ _ _=>(NK (K:=K) (n:=2) rfl rfl (iS (dG (i:=2) mC.nd rfl (cB rfl)) (iS (dG (i:=3) mC.nd rfl (cB rfl)) wG)))) (λ_ _ _ _ _=>sI (LC (Ml (KD hr) (pv 1) (sM (K:=K) rfl (pv 2) rfl)))) (λ_ _ _ _ _=>(Ed (aB (Pl (KD hr) (sM (K:=K) rfl (pv 2) rfl) (pv 1) (λ_ _=>rfl)) (aB (pv 3) aL))))))),?_⟩
  have cl:=T.cQ.cl
  obtain⟨n1,n2⟩:=E9 T
  simp_arith
  refine bx (xs:=zs) cS (λz=>V.ref z.1) (λz=>(ks z.2.1).contains c) (λz v H'=>∃t,v=.ref t/\Yt K H' f ov t (z.2.1++[c],z.2.2)) (Ld H a) (λR h=>h _ _ ⟨rfl,rfl⟩) (λa' H1 c=>by rw[c.1,c.2];exact W.at_) hz ?_ ?_
  ·rintro _ _ D ⟨rfl,rfl⟩ hD i z H' hzi s1 acc Nx hacc hlt ad
   have hm:=aY hzi
   obtain⟨ra,w0,w1,w2⟩:=W.each z hm
   refine OF (s1 _ _ w1) ?_
   have R1:=R.rel cS s1
   have hN:=R1.node _ (hDm z hm)
   have hDd:=R1.dict _ (hDm z hm)
   simp_arith [Zz, ↓eY,hN,HO.ins.injEq,cl,n1,Bx, ↓f7,Oy]
   refine⟨_,EV.k (k:=eI (c:Int)) hDd,?_⟩
   rw[CM]
   by_cases hc:c∈ks z.2.1
   ·have hc':(ks z.2.1).contains c=true:=aR.mpr hc
    rw[if_pos hc,if_pos (show(some _).isSome=true from rfl)]
    have dg:=EV.k (k:=eI (c:Int)) hDd
    rw[CM,if_pos hc] at dg
    refine⟨_,dg,by rw[aX];decide,λp hp=> ?_⟩
    have s2:aZ H' (L2.upd H' p (.tup [.ref (f (z.2.1++[c])).p,.ref ra])):=aZ.upd hp
    refine ad.add hc' hacc hlt cS s2 λH5 b5=>⟨p,rfl,ra,w0,b5 _ _ aK (λe=>by rw[e,hacc] at hp;cases hp) rfl,C8 cS w2 hD (s1.trans s2) b5⟩
   ·have hc':(ks z.2.1).contains c=false:=by cases e:(ks z.2.1).contains c with | false=>rfl | true=>exact absurd (aR.mp e) hc
    rw[if_neg hc,if_neg (by simp)]
    exact ad.no hc' _ (aZ.refl _)
  ·rintro _ _ D H2 ys ⟨rfl,rfl⟩ hD s1 hy hp
   obtain⟨zs',rfl,h2,h3⟩:=HU (λz:Addr×EA=>(z.2.1++[c],z.2.2)) hp
   refine k H2 D zs' s1 hD hy ⟨dX.of hy,h3⟩ ?_
   rw[h2]
   unfold MP
   rw[kM,bR]
   rfl
theorem iC:bV ["ways","letters","onward","branch","rack","letter","after","left"] ["ways","letters"] (defScope AL):=⟨rfl,rfl,rfl,by decide+kernel,rfl,by decide+kernel,by decide+kernel⟩
def Uj (H:Hp)(f:List Nat->oB)(ov o t:Addr)(z:EA):Prop:=∃ra,(ra≠ov/\ra≠o)/\H t=some (.tup [.ref (f z.1).p,.ref ra])/\H ra=some (.lst (cT z.2))
def MR (K:PySem.W.Frag)(C:Addr):Sp:=λvs H Q _=>∃(a al:Addr) (lt:List Nat) (Dm:List Nat->Prop) (S:List (List Nat)) (f:List Nat->oB) (ks:List Nat->List Nat) (tw:List Nat->Addr) (zs:List (Addr×EA)) (ov:Addr) (oo:HO),vs=[.ref a,.ref al]/\H ov=some oo/\SZ C H Dm S f ks tw/\BH K H f ov a zs/\dX K H al (cT lt)/\(∀z∈zs,Dm z.2.1/\z.2.2.length<=7)/\(qY ks lt (zs.map λz=>z.2)).length < sizeLine/\(∀kv,oo≠ .dK kv)/\
 ∀H' q zs',aZ H H'->H q=none->H' q=some (.lst (zs'.map λz=>V.ref z.1))->BH K H' f ov q zs'->zs'.map (λz=>z.2)=qY ks lt (zs.map λz=>z.2)->Q (.ref q) H'
theorem Uj.put {H H':Hp}{f:List Nat->oB}{ov o t:Addr}{z:EA}{xs ys:List V}(h:Uj H f ov o t z)(hs:aZ H H')(ho:H' o=some (.lst xs)):Uj (L2.upd H' o (.lst ys)) f ov o t z:=by
 obtain⟨ra,n,h1,h2⟩:=h
 exact⟨ra,n,by rw[aM (eK (hs _ _ h1) ho (by intro z;cases z))];exact hs _ _ h1,by rw[aM n.2];exact hs _ _ h2⟩
theorem NN (T:kR K mg A F):Ok P w K mg 2 A.jE F.jE ["ways","letters"] (MR K A.cQ):=λbase bb=>by
 refine T.jE.F.ok iC (λvs H Q E h=> ?_) (λcdv Ar outer s H vs Q E hr h=> ?_)
 ·obtain⟨a,al,lt,Dm,S,f,ks,tw,zs,ov,oo,rfl,_⟩:=h
  rfl
 ·obtain⟨a,al,lt,Dm,S,f,ks,tw,zs,ov,oo,rfl,hov,R,W,hl,hDm,hz,hoo,k⟩:=h
  refine⟨_,(aO (dJ (i:=2) iC.nd rfl (cB rfl) (gJ aL)) (aO (tW eP rfl (iY (pv 0)) (WG (n:=2) rfl (iS (dG (i:=3) iC.nd rfl (cB rfl)) (iS (dG (i:=4) iC.nd rfl (cB rfl)) wG))) (aS (Pg (tW eP rfl (Wp (bY (pv 3) rfl)) (WG (n:=2) rfl (iS (dG (i:=5) iC.nd rfl (cB rfl)) (iS (dG (i:=6) iC.nd rfl (cB rfl)) wG))) (aO (dJ (i:=7) iC.nd rfl (cB rfl) (kP (eB HV (pv 5) (pv 1) (by with_unfolding_all rfl)) (oF T.lI (TV T base bb) hr (aB (pv 4) (aB (pv 5) aL))) Ee)) (aS (gC (LC (Po (pv 7))) (aS (sJ (JU PySem.F.plainAttrs_list PySem.F.slot_list_append PySem.F.type_list_append QJ (pv 2) (aB (Ed (aB (pv 6) (aB (pv 7) aL))) aL)))) dN))))))) (aS (bU (pv 2))))),?_⟩
  have cl:=T.cQ.cl
  obtain⟨n1,n2⟩:=E9 T
  simp_arith only[↓rQ]
  refine⟨cA _,λo ho=> ?_⟩
  have s0:aZ H (L2.upd H o (.lst [])):=aZ.upd ho
  refine K0 (xs:=zs) (λz=>V.ref z.1) (λq H1=>q=a/\H1=L2.upd H o (.lst [])) (λR h=>h _ _ ⟨rfl,rfl⟩)
   (λq i σ' H'=>q=a/\aZ H H'/\∃(ys:List (Addr×EA)) (v3 v4 v5 v6 v7:Option V),σ'=[some (.ref a),some (.ref al),some (.ref o),v3,v4,v5,v6,v7]/\H' o=some (.lst (ys.map λz=>V.ref z.1))/\(∀z∈ys,Uj H' f ov o z.1 z.2)/\ys.map (λz=>z.2)=qY ks lt ((zs.take i).map λz=>z.2)) ?_ ?_ ?_ ?_
  ·rintro _ _ ⟨rfl,rfl⟩
   exact⟨rfl,s0,[],none,none,none,none,none,rfl,aK,λz hz=>by simp at hz,rfl⟩
  ·rintro q i σ' H' ⟨rfl,s1,_⟩
   exact s1.seq W.at_
  ·rintro q i z σ' H' hzi ⟨rfl,s1,ys,v3,v4,v5,v6,v7,rfl,ho1,hw,hys⟩
   have hm:=aY hzi
   obtain⟨ra,w0,w1,w2⟩:=W.each z hm
   obtain⟨hDz,hrl⟩:=hDm z hm
   refine OF (s1 _ _ w1) ?_
   have hN0:=R.node _ hDz
   have hD0:=R.dict _ hDz
   have hN:=s1 _ _ hN0
   have hDd:=s1 _ _ hD0
   have htk:(zs.take (i+1)).map (λz=>z.2)=(zs.take i).map (λz=>z.2)++[z.2]:=by
    rw[jV,hzi,cC];rfl
   have hst:qY ks lt ((zs.take (i+1)).map λz=>z.2)=qY ks lt ((zs.take i).map λz=>z.2)++(ks z.2.1).filterMap (yA lt z.2):=by
    rw[htk]
    unfold qY
    rw[rY,pO,Ah,eX]
   have hlen:(qY ks lt ((zs.take (i+1)).map λz=>z.2)).length < sizeLine:=by
    refine B0 ?_ hz
    have:zs.map (λz=>z.2)=(zs.take (i+1)).map (λz=>z.2)++(zs.drop (i+1)).map (λz=>z.2):=by rw[<-cC,Vh]
    rw[this]
    unfold qY
    rw[rY,bZ]
    exact nW _ _
   rw[hst] at hlen
   simp_arith only
   refine⟨(f z.2.1).nd,_,hDd,trivial,λod=> ?_⟩
   have hNn:(f z.2.1).p≠(f z.2.1).nd:=eK hN hDd (by intro z;cases z)
   have hvn:ov≠(f z.2.1).nd:=λe=>by
    rw[e,hD0] at hov
    exact hoo _ (cX hov).symm
   have hon:o≠(f z.2.1).nd:=eK ho1 hDd (by intro z;cases z)
   refine cn (kvs:=(ks z.2.1).map (BD f z.2.1)) (f z.2.1).nd (λR h=> ?_) od
    (λj σ'' H''=>mE (f z.2.1).nd H H''/\H'' (f z.2.1).nd=some (.frz od (.dK ((ks z.2.1).map (BD f z.2.1))))/\∃(ys:List (Addr×EA)) (v5 v6 v7:Option V),σ''=[some (.ref q),some (.ref al),some (.ref o),some (.ref (f z.2.1).p),some (.ref ra),v5,v6,v7]/\H'' o=some (.lst (ys.map λz=>V.ref z.1))/\(∀z∈ys,Uj H'' f ov o z.1 z.2)/\ys.map (λz=>z.2)=qY ks lt ((zs.take i).map λz=>z.2)++((ks z.2.1).take j).filterMap (yA lt z.2)) ?_ ?_ ?_ ?_
   ·have hNL:(L2.upd H' (f z.2.1).nd (.frz od (.dK ((ks z.2.1).map (BD f z.2.1))))) (f z.2.1).p=some (.ins A.cQ (f z.2.1).dx (m9 (f z.2.1).nd (if S.contains z.2.1=true then .ref (tw z.2.1) else .non))):=by rw[aM hNn];exact hN
    simp_arith [↓eY,hNL,HO.ins.injEq,cl,n1,Bx]
    exact h
   ·refine⟨λc u e n=>by rw[aM n];exact s1 _ _ e,aK,ys,_,_,_,rfl,by rw[aM hon];exact ho1,λy hy=> ?_,by rw[hys];simp⟩
    obtain⟨ra',m1,m2,m3⟩:=hw y hy
    exact⟨ra',m1,by rw[aM (eK m2 hDd (by intro z;cases z))];exact m2,by rw[aM (eK m3 hDd (by intro z;cases z))];exact m3⟩
   ·rintro j σ'' H'' ⟨_,g2,_⟩
    exact g2
   ·rintro j kk vv σ'' H'' T' hk ⟨b1,g2,ys,v5,v6,v7,rfl,ho2,hw2,hys2⟩ hT
    obtain⟨l,hlj,rfl,rfl⟩:∃l,(ks z.2.1)[j]? =some l/\kk=eI (l:Int)/\vv=V.ref (f (z.2.1++[l])).p:=by
     rw[aP] at hk
     obtain⟨l,h1,h2⟩:=cK.mp hk
     cases h2
     exact⟨l,h1,rfl,rfl⟩
    refine OF aK ?_
    have s3:aZ H'' (L2.upd H'' T' (.tup [kV (eI (l:Int)),.ref (f (z.2.1++[l])).p])):=aZ.upd hT
    generalize L2.upd H'' T' (.tup [kV (eI (l:Int)),.ref (f (z.2.1++[l])).p])=H3 at s3 ⊢
    have hl3:=s3.seq (b1.seqD hD0 hl)
    have hr3:=s3.seq (b1.seqD hD0 w2)
    have ht2:(ks z.2.1).take (j+1)=(ks z.2.1).take j++[l]:=by rw[jV,hlj];rfl
    have hylen:ys.length < sizeLine:=by
     have e:=congrArg iI hys2
     rw[aA,bZ] at e
     rw[bZ] at hlen
     have:(((ks z.2.1).take j).filterMap (yA lt z.2)).length<=((ks z.2.1).filterMap (yA lt z.2)).length:=by
      have e2:(ks z.2.1).filterMap (yA lt z.2)=((ks z.2.1).take j).filterMap (yA lt z.2)++((ks z.2.1).drop j).filterMap (yA lt z.2):=by rw[<-jJ,Vh]
      rw[e2,bZ]
      exact nW _ _
     omega
    have skip:yA lt z.2 l=none->∀H4,aZ H3 H4->mE (f z.2.1).nd H H4/\H4 (f z.2.1).nd=some (.frz od (.dK ((ks z.2.1).map (BD f z.2.1))))/\H4 o=some (.lst (ys.map λz=>V.ref z.1))/\(∀y∈ys,Uj H4 f ov o y.1 y.2)/\ys.map (λz=>z.2)=qY ks lt ((zs.take i).map λz=>z.2)++((ks z.2.1).take (j+1)).filterMap (yA lt z.2):=λhkw H4 s4=>by
     have s34:=s3.trans s4
     refine⟨λc u e n=>s34 _ _ (b1 c u e n),s34 _ _ g2,s34 _ _ ho2,λy hy=> ?_,?_⟩
     ·obtain⟨ra',m1,m2,m3⟩:=hw2 y hy
      exact⟨ra',m1,s34 _ _ m2,s34 _ _ m3⟩
     ·rw[ht2,jJ,dM,hkw,v9,eX]
      exact hys2
    simp_arith only
    refine⟨al,_,rfl,.inl hl3,rfl,sU _,Kh ?_⟩
    rw[show G9 (kV (eI (l:Int))) (cT lt)=lt.contains l from GV]
    by_cases hc:lt.contains l=true
    ·rw[if_pos (by simpa using hc)]
     refine PN hr3 hrl (λhn H4 s4=> ?_) λr hr' H4 q2 s4 hq2 hq2'=> ?_
     ·simp_arith [Hb]
      have sk:=skip (by unfold yA;rw[if_pos hc,hn];rfl) H4 s4
      rw[if_neg (by simp)]
      exact⟨sk.1,sk.2.1,ys,sk.2.2⟩
     ·simp_arith [Hb, ↓f7]
      rw[if_pos (by intro z;cases z)]
      have s34:=s3.trans s4
      refine⟨.inl ⟨rfl,_,dX.of (s34 _ _ ho2)⟩,by rw[aX];decide,λp hp=> ?_⟩
      have s5:aZ H4 (L2.upd H4 p (.tup [.ref (f (z.2.1++[l])).p,.ref q2])):=aZ.upd hp
      have s35:=s34.trans s5
      have hq2o:q2≠o:=λe=>by rw[e,s3 _ _ ho2] at hq2;cases hq2
      have hq2v:q2≠ov:=λe=>by rw[e,s3 _ _ (b1 _ _ hov (by exact hvn))] at hq2;cases hq2
      have hpo:p≠o:=λe=>by rw[e,s34 _ _ ho2] at hp;cases hp
      refine⟨_,s35 _ _ ho2,by rw[aA];exact hylen,λc u e n=> ?_,?_,ys++[(p,(z.2.1++[l],r))],by rw[aK,cC];rfl,λy hy=> ?_,?_⟩
      ·have hco:c≠o:=λz=>by rw[z,ho] at e;cases e
       rw[aM hco]
       exact s35 _ _ (b1 c u e n)
      ·rw[aM (fE hon)]
       exact s35 _ _ g2
      ·rcases cW.mp hy with hy | hy
       ·exact(hw2 y hy).put s35 (s35 _ _ ho2)
       ·rw[cP.mp hy]
        refine⟨q2,⟨hq2v,hq2o⟩,by rw[aM hpo,aK],?_⟩
        rw[aM hq2o]
        exact s5 _ _ hq2'
      ·rw[cC,hys2,ht2,jJ,dM]
       have hkw:yA lt z.2 l=some (z.2.1++[l],r):=by unfold yA;rw[if_pos hc,hr'];rfl
       rw[hkw,v9,pP]
       rfl
    ·rw[if_neg (by simpa using hc)]
     simp_arith [Hb]
     have sk:=skip (by unfold yA;rw[if_neg hc]) H3 (aZ.refl _)
     rw[if_neg (by simp)]
     exact⟨sk.1,sk.2.1,ys,sk.2.2⟩
   ·rintro σ'' H'' ⟨b1,g2,ys,v5,v6,v7,rfl,ho2,hw2,hys2⟩
    have htl:(ks z.2.1).take ((ks z.2.1).map (BD f z.2.1)).length=ks z.2.1:=gM (by rw[aA];exact aU _)
    rw[htl] at hys2
    refine⟨g2,λc u e=> ?_,ys,_,_,_,_,_,rfl,by rw[aM hon];exact ho2,λy hy=> ?_,by rw[hst];exact hys2⟩
    ·by_cases hcn:c=(f z.2.1).nd
     ·rw[hcn,aK, <-hD0, <-hcn];exact e
     ·rw[aM hcn];exact b1 c u e hcn
    ·obtain⟨ra',m1,m2,m3⟩:=hw2 y hy
     exact⟨ra',m1,by rw[aM (eK m2 g2 (by intro z;cases z))];exact m2,by rw[aM (eK m3 g2 (by intro z;cases z))];exact m3⟩
  ·rintro q σ' H' ⟨rfl,s1,ys,v3,v4,v5,v6,v7,rfl,ho1,hw,hys⟩
   rw[qR] at hys
   simp_arith
   exact k H' o ys s1 ho ho1 ⟨dX.of ho1,λz hz=>let ⟨ra,h0,h1,h2⟩:=hw z hz;⟨ra,h0.1,h1,dX.of h2⟩⟩ hys
end
def Zg (dw ar tr al:Addr):List (Str×V):=[("words",.ref dw),("rack",.ref ar),("tree",.ref tr),("layable",.ref al)]
section
variable (dw ar tr al:Addr)
theorem SI:(Zg dw ar tr al).lookup ("words":Str)=some (.ref dw):=rfl
theorem SK:(Zg dw ar tr al).lookup ("rack":Str)=some (.ref ar):=rfl
theorem SJ:(Zg dw ar tr al).lookup ("tree":Str)=some (.ref tr):=rfl
theorem SL:(Zg dw ar tr al).lookup ("layable":Str)=some (.ref al):=rfl
theorem CK:(Zg dw ar tr al).lookup ("letters_for":Str)=none:=rfl
theorem CJ:(Zg dw ar tr al).lookup ("words_ending":Str)=none:=rfl
theorem CI:(Zg dw ar tr al).lookup ("words_from":Str)=none:=rfl
theorem CH:(Zg dw ar tr al).lookup ("rank_of":Str)=none:=rfl
end
structure TY (ws:List (List Nat)):Prop where
 nd:ws.Nodup
 len:ws.length<=4096
 each:∀w∈ws,2<=w.length/\w.length<=15/\∀c∈w,65<=c/\c<=90
structure rJ (K:PySem.W.Frag)(C CB:Addr)(H:Hp)(s dx dw ar al:Addr)(ws:List (List Nat))(rk:List Nat)(f:List Nat->oB)(ks:List Nat->List Nat)(tw:List Nat->Addr):Prop where
 at_:H s=some (.ins C dx (Zg dw ar (f []).p al))
 dws:H dw=some (.dT (mJ ws))
 rks:dX K H ar (cT rk)
 tr:SZ CB H (uB ws) ws f ks tw
 la:H al=some (.lst (cT (ZV rk)))
theorem rJ.rel {Rl:Hp->Hp->Prop}(R:RC Rl){K:PySem.W.Frag}{C CB:Addr}{H H':Hp}{s dx dw ar al:Addr}{ws:List (List Nat)}{rk:List Nat}{f:List Nat->oB}{ks:List Nat->List Nat}{tw:List Nat->Addr}(h:rJ K C CB H s dx dw ar al ws rk f ks tw)(e:Rl H H'):rJ K C CB H' s dx dw ar al ws rk f ks tw:=
 ⟨R.k e h.at_ rfl,R.k e h.dws rfl,R.seq e h.rks,h.tr.rel R e,R.k e h.la rfl⟩
theorem rJ.same {K:PySem.W.Frag}{C CB:Addr}{H H':Hp}{s dx dw ar al:Addr}{ws:List (List Nat)}{rk:List Nat}{f:List Nat->oB}{ks:List Nat->List Nat}{tw:List Nat->Addr}(h:rJ K C CB H s dx dw ar al ws rk f ks tw)(e:aZ H H'):rJ K C CB H' s dx dw ar al ws rk f ks tw:=h.rel cS e
def oX (b:List Nat)(ws:List (List Nat))(rk:List Nat)(d:Int)(c:fU):List Nat:=if lR b c=true then(if tS b c.1 c.2 d=true then(ZV rk).filter λl=>ws.contains ((nE b c.1 c.2 d l).map aQ) else ZV rk) else[]
section
variable {P:bS}{w:cY}{K:PySem.W.Frag}{mg:Str->Option aC}{A:Ad}{F:Fd}
theorem IQ (T:kR K mg A F):fP K A.bX "words"/\fP K A.bX "rack"/\fP K A.bX "tree"/\fP K A.bX "layable":=⟨T.bX.no _ (by simp),T.bX.no _ (by simp),T.bX.no _ (by simp),T.bX.no _ (by simp)⟩
theorem Do:bV ["ways","spot","letters"] ["ways","spot","letters"] (defScope RW):=⟨rfl,rfl,rfl,by decide+kernel,rfl,by decide+kernel,by decide+kernel⟩
def Dh (K:PySem.W.Frag)(C CS:Addr):Sp:=λvs H Q _=>∃(a p al:Addr) (b lt:List Nat) (d:Int) (c:fU) (Dm:List Nat->Prop) (S:List (List Nat)) (f:List Nat->oB) (ks:List Nat->List Nat) (tw:List Nat->Addr) (zs:List (Addr×EA)) (ov:Addr) (oo:HO),vs=[.ref a,.ref p,.ref al]/\H ov=some oo/\(∀kv,oo≠ .dK kv)/\SZ C H Dm S f ks tw/\BH K H f ov a zs/\KI CS H b d p c/\BM b/\dX K H al (cT lt)/\(∀z∈zs,Dm z.2.1/\z.2.2.length<=7)/\zs.length<=sizeLine/\(JD b ks c lt (zs.map λz=>z.2)).length < sizeLine/\
 ∀H' q zs',aZ H H'->H q=none->H' q=some (.lst (zs'.map λz=>V.ref z.1))->BH K H' f ov q zs'->zs'.map (λz=>z.2)=JD b ks c lt (zs.map λz=>z.2)->Q (.ref q) H'
theorem Ej (T:kR K mg A F):Ok P w K mg 3 A.qV F.qV ["ways","spot","letters"] (Dh K A.cQ A.aV):=λbase bb=>by
 refine T.qV.F.ok Do (λvs H Q E h=> ?_) (λcdv Ar outer s H vs Q E hr h=> ?_)
 ·obtain⟨a,p,al,b,lt,d,c,Dm,S,f,ks,tw,zs,ov,oo,rfl,_⟩:=h
  rfl
 ·obtain⟨a,p,al,b,lt,d,c,Dm,S,f,ks,tw,zs,ov,oo,rfl,hov,hoo,R,W,⟨dx,a1,a2,sp⟩,hb,hl,hz,hzl,hst,k⟩:=h
  refine⟨_,(aO (gC (gI (bY (pv 1) rfl)) (aS (bU (oF T.jE (NN T base bb) hr (aB (pv 0) (aB (pv 2) aL))))) dN) (aS (bU (oF T.gU (IP T base bb) hr (aB (pv 0) (aB (oF T.nF (JX T base bb) hr (aB (bY (pv 1) rfl) aL)) aL)))))),?_⟩
  unfold JD at hst k
  simp_arith [↓eY,sp.at_,HO.ins.injEq,T.aV.cl,(mF T).1,(mF T).2.1,(mF T).2.2.1,(mF T).2.2.2.1,(mF T).2.2.2.2.1,(mF T).2.2.2.2.2.1,(mF T).2.2.2.2.2.2.1,(mF T).2.2.2.2.2.2.2,KA,GM,GO,DU,GN,JZ,KB,JY,DT]
  split
  ·rename_i h
   rw[if_pos (show lR b c=true from h)] at hst k
   exact⟨a,al,lt,Dm,S,f,ks,tw,zs,ov,oo,rfl,hov,R,W,hl,hz,hst,hoo,k⟩
  ·rename_i h
   rw[if_neg (show¬lR b c=true from h)] at hst k
   have h0:¬aH b c.1 c.2=0:=λe=>h (by rw[e];rfl)
   have hsq:sq (aH b c.1 c.2)=((aH b c.1 c.2:Nat):Int):=by unfold sq;rw[if_neg h0]
   intro H2 s2
   rw[hsq,Cn]
   exact⟨a,_,Dm,S,f,ks,tw,zs,ov,rfl,R.rel cS s2,W.rel cS s2,λz hz'=>(hz z hz').1,hzl,λH' q zs' s3 hq=>k H' q zs' (s2.trans s3) (s2.free hq)⟩
theorem VP:bV ["self","words","rack"] ["self","words","rack"] (defScope JN):=⟨rfl,rfl,rfl,by decide+kernel,rfl,by decide+kernel,by decide+kernel⟩
def FN (K:PySem.W.Frag)(C CB:Addr):Sp:=λvs H Q _=>∃(p dx dw ar:Addr) (ws:List (List Nat)) (rk:List Nat),vs=[.ref p,.ref dw,.ref ar]/\H p=some (.ins C dx [])/\H dw=some (.dT (mJ ws))/\dX K H ar (cT rk)/\(∀w∈ws,∀c∈w,c<=255)/\
 ∀H' al f ks tw,mE p H H'->rJ K C CB H' p dx dw ar al ws rk f ks tw->Q .non H'
theorem WS (T:kR K mg A F):Ok P w K mg 5 A.lM F.lM ["self","words","rack"] (FN K A.bX A.cQ):=λbase bb=>by
 refine T.lM.F.ok VP (λvs H Q E h=> ?_) (λcdv Ar outer s H vs Q E hr h=> ?_)
 ·obtain⟨p,dx,dw,ar,ws,rk,rfl,_⟩:=h
  rfl
 ·obtain⟨p,dx,dw,ar,ws,rk,rfl,hp,hd,hk,hw,k⟩:=h
  refine⟨_,(aO (gO (pv 0) (pv 1) rfl) (aO (gO (pv 0) (pv 2) rfl) (aO (gO (pv 0) (oF T.yL (Mo T base bb) hr (aB (pv 1) aL)) rfl) (aS (gO (pv 0) (oF T.iM (LI T base bb) hr (aB (pv 2) aL)) rfl))))),?_⟩
  obtain⟨n1,n2,n3,n4⟩:=IQ T
  have cl:=T.bX.cl
  have ndp:dw≠p:=eK hd hp (by intro z;cases z)
  refine sS (dx:=dx) (fs:=[]) (λv H1=>v=.ref dw/\H1=H) rfl cl n1 (by decide) (λR h=> ?_) (λv H1 g=>by rw[g.2];exact hp) ?_
  ·simp_arith
   exact h _ _ ⟨rfl,rfl⟩
  rintro _ H1 ⟨rfl,e1⟩
  rw[e1]
  have u1:mE p H (L2.upd H p (.ins A.bX dx (fL "words" (.ref dw) []))):=(mE.refl p H).andU
  have p1:(L2.upd H p (.ins A.bX dx (fL "words" (.ref dw) []))) p=some (.ins A.bX dx [("words",.ref dw)]):=aK
  generalize L2.upd H p (.ins A.bX dx (fL "words" (.ref dw) []))=J1 at u1 p1 ⊢
  refine sS (fs:=[("words",.ref dw)]) (λv H1=>v=.ref ar/\H1=J1) rfl cl n2 (by show 1 < 1000;decide) (λR h=> ?_) (λv H1 g=>by rw[g.2];exact p1) ?_
  ·simp_arith
   exact h _ _ ⟨rfl,rfl⟩
  rintro _ J1 ⟨rfl,rfl⟩
  have u2:mE p H (L2.upd J1 p (.ins A.bX dx (fL "rack" (.ref ar) [("words",.ref dw)]))):=u1.andU
  have p2:(L2.upd J1 p (.ins A.bX dx (fL "rack" (.ref ar) [("words",.ref dw)]))) p=some (.ins A.bX dx [("words",.ref dw),("rack",.ref ar)]):=aK
  generalize L2.upd J1 p (.ins A.bX dx (fL "rack" (.ref ar) [("words",.ref dw)]))=J2 at u2 p2 ⊢
  refine sS (fs:=[("words",.ref dw),("rack",.ref ar)]) (λv H3=>∃(f:List Nat->oB) (ks:List Nat->List Nat) (tw:List Nat->Addr),v=.ref (f []).p/\aZ J2 H3/\SZ A.cQ H3 (uB ws) ws f ks tw/\∀u,uB ws u->(f u).p≠p/\(f u).nd≠p/\∀u∈ws,tw u≠p) rfl cl n3 (by show 2 < 1000;decide) (λR h=> ?_) (λv H1 g=>by obtain⟨_,_,_,_,g2,_⟩:=g;exact g2 _ _ p2) ?_
  ·simp_arith
   refine Gq (u2 _ _ hd ndp) hw λH3 f ks tw s3 t3=>h _ _ ⟨f,ks,tw,rfl,s3,t3,λu hu=>⟨?_,?_,λu hu=> ?_⟩⟩
   ·refine eK (t3.node u hu) (s3 _ _ p2) (λz=> ?_)
    injection z with _ _ z
    injection z with z _
    exact absurd (show("nexts":Str)="words" from congrArg Prod.fst z) (by decide)
   ·exact eK (t3.dict u hu) (s3 _ _ p2) (by intro z;cases z)
   ·exact eK (t3.tup u hu) (s3 _ _ p2) (by intro z;cases z)
  rintro _ H3 ⟨f,ks,tw,rfl,s3,t3,off⟩
  have u3:mE p H (L2.upd H3 p (.ins A.bX dx (fL "tree" (.ref (f []).p) [("words",.ref dw),("rack",.ref ar)]))):=(u2.andS s3).andU
  have p3:(L2.upd H3 p (.ins A.bX dx (fL "tree" (.ref (f []).p) [("words",.ref dw),("rack",.ref ar)]))) p=some (.ins A.bX dx [("words",.ref dw),("rack",.ref ar),("tree",.ref (f []).p)]):=aK
  have Kr:∀{H4:Hp} {o:HO},SZ A.cQ H4 (uB ws) ws f ks tw->SZ A.cQ (L2.upd H4 p o) (uB ws) ws f ks tw:=λ{H4 o} t=>by
   have offT:=(off [] (.inl rfl)).2.2
   exact⟨λu hu=>by rw[aM (off u hu).1];exact t.node u hu,λu hu=>by rw[aM (off u hu).2.1];exact t.dict u hu,t.keys,t.nd,λu hu=>by rw[aM (offT u hu)];exact t.tup u hu,t.inj,t.injd,t.cap⟩
  have t4:SZ A.cQ (L2.upd H3 p (.ins A.bX dx (fL "tree" (.ref (f []).p) [("words",.ref dw),("rack",.ref ar)]))) (uB ws) ws f ks tw:=Kr t3
  generalize L2.upd H3 p (.ins A.bX dx (fL "tree" (.ref (f []).p) [("words",.ref dw),("rack",.ref ar)]))=J3 at u3 p3 t4 ⊢
  have a3:=u3.seqI hp hk
  refine HY (fs:=[("words",.ref dw),("rack",.ref ar),("tree",.ref (f []).p)]) (λv H4=>∃al,v=.ref al/\aZ J3 H4/\J3 al=none/\H4 al=some (.lst (cT (ZV rk)))) rfl cl n4 (by show 3 < 1000;decide) (λR h=> ?_) (λv H1 g=>by obtain⟨_,_,g2,_⟩:=g;exact g2 _ _ p3) ?_
  ·simp_arith
   exact II a3 λH4 q s4 hq hq'=>h _ _ ⟨q,rfl,s4,hq,hq'⟩
  rintro _ H4 ⟨al,rfl,s4,hal,hal'⟩
  have hap:al≠p:=λz=>by rw[z,p3] at hal;cases hal
  have u4:=(u3.andS s4).andU (o:=.ins A.bX dx (fL "layable" (.ref al) [("words",.ref dw),("rack",.ref ar),("tree",.ref (f []).p)]))
  refine k _ al f ks tw u4 ⟨aK,u4 _ _ hd ndp,u4.seqI hp hk,Kr (t4.rel cS s4),by rw[aM hap];exact hal'⟩
theorem Lj {K:PySem.W.Frag}{C CB:Addr}{H:Hp}{Qp:Hp->Prop}{E:XK}{x0 dx dw ar:Addr}{ws:List (List Nat)}{rk:List Nat}(hd:H dw=some (.dT (mJ ws)))(hk:dX K H ar (cT rk))(hw:∀w∈ws,∀c∈w,c<=255)(nx:H x0=none)(nd:H dx=none)(ne:dx≠x0)
  (k:∀H' al f ks tw,aZ H H'->rJ K C CB H' x0 dx dw ar al ws rk f ks tw->Qp H'):FN K C CB [.ref x0,.ref dw,.ref ar] (L2.upd (L2.upd H dx (.own x0)) x0 (.ins C dx [])) (λv H2=>v=.non/\Qp H2) E:=by
 have up:aZ H (L2.upd (L2.upd H dx (.own x0)) x0 (.ins C dx [])):=λc o e=>by
  rw[aM (bJ e nx),aM (bJ e nd)];exact e
 exact⟨x0,dx,dw,ar,ws,rk,rfl,aK,up _ _ hd,up.seq hk,hw,λH' al f ks tw bt S=>⟨rfl,k H' al f ks tw (aZ.made nx nd bt) S⟩⟩
abbrev EN:List Str:=["self","spot","letter"]
theorem nZ:bV ["self","spot","letter"] ["self","spot"] (defScope oR):=⟨rfl,rfl,rfl,by decide+kernel,rfl,by decide+kernel,by decide+kernel⟩
def FJ (K:PySem.W.Frag)(C CB CS:Addr):Sp:=λvs H Q _=>∃(s dx dw ar al p:Addr) (ws:List (List Nat)) (b rk:List Nat) (d:Int) (c:fU) (f:List Nat->oB) (ks:List Nat->List Nat) (tw:List Nat->Addr),vs=[.ref s,.ref p]/\rJ K C CB H s dx dw ar al ws rk f ks tw/\KI CS H b d p c/\
 ∀H' q,aZ H H'->(q=al\/H q=none)->H' q=some (.lst (cT (oX b ws rk d c)))->Q (.ref q) H'
theorem TM {K:PySem.W.Frag}{C CB CS:Addr}{H:Hp}{Q:VK}{E:XK}{s dx dw ar al p:Addr}{ws:List (List Nat)}{b rk:List Nat}{d:Int}{c:fU}{f:List Nat->oB}{ks:List Nat->List Nat}{tw:List Nat->Addr}(S:rJ K C CB H s dx dw ar al ws rk f ks tw)(sp:KI CS H b d p c)
  (k:∀H' q,aZ H H'->(q=al\/H q=none)->H' q=some (.lst (cT (oX b ws rk d c)))->Q (.ref q) H'):FJ K C CB CS [.ref s,.ref p] H Q E:=⟨s,dx,dw,ar,al,p,ws,b,rk,d,c,f,ks,tw,rfl,S,sp,k⟩
theorem Ng (b:List Nat)(x y d:Int)(c:Nat):(nE b x y d c).length<=31:=by
 unfold nE
 split
 ·unfold vD zI
  simp only[bZ,rX,cM,KM]
  have h1:=uD b (-d) (-(1 - d)) 15 (x - d) (y - (1 - d))
  have h2:=uD b d (1 - d) 15 (x+d) (y+(1 - d))
  omega
 ·exact cA _
theorem EH (T:kR K mg A F):Ok P w K mg 4 A.fZ F.fZ ["self","spot"] (FJ K A.bX A.cQ A.aV):=λbase bb=>by
 refine T.fZ.F.ok nZ (λvs H Q E h=> ?_) (λcdv Ar outer s H vs Q E hr h=> ?_)
 ·obtain⟨s,dx,dw,ar,al,p,ws,b,rk,d,c,f,ks,tw,rfl,_⟩:=h
  rfl
 ·obtain⟨s,dx,dw,ar,al,p,ws,b,rk,d,c,f,ks,tw,rfl,S,⟨dx',a1,a2,sp⟩,k⟩:=h
  refine⟨_,(aO (gC (qK (gI (bY (pv 1) rfl))) (aS (bU (gJ aL))) dN) (aO (gC (qK (gI (bY (pv 1) rfl))) (aS (bU (bY (pv 0) rfl))) dN) (aS (bU (tI rfl nZ.nd (iY (bY (pv 0) rfl)) (fN (N:=EN) (sc:=defScope oR) (own:=[("letter",2)]) (by decide+kernel)) (λ_ _ _ _ _=>(dG (i:=2) nZ.nd rfl (cB rfl))) (λ_ _ _ _ _=>sI (LC (Ml (KD hr) (oF T.iW (vI T base bb) hr (aB (IL (pv 1) T.aV T.fI (tJ T base bb) hr (aB (pv 2) aL)) aL)) (sM (K:=K) rfl (pv 0) rfl)))) (λ_ _ _ _ _=>(pv 2))))))),?_⟩
  unfold oX at k
  refine OE (!lR b c) (λR h=> ?_) (λhc=> ?_) (λhc=> ?_)
  ·simp_arith [↓eY,sp.at_,HO.ins.injEq,T.aV.cl,(mF T).1,(mF T).2.1,(mF T).2.2.1,(mF T).2.2.2.1,(mF T).2.2.2.2.1,(mF T).2.2.2.2.2.1,(mF T).2.2.2.2.2.2.1,(mF T).2.2.2.2.2.2.2,KA,GM,GO,DU,GN,JZ,KB,JY,DT]
   exact h
  ·rw[if_neg (by rw[Pr hc];simp)] at k
   simp_arith [↓rQ]
   exact⟨cA _,λe1 he1=>k _ _ (aZ.upd he1) (.inr he1) aK⟩
  ·rw[if_pos (Mr hc)] at k
   refine OE (!tS b c.1 c.2 d) (λR h=> ?_) (λhx=> ?_) (λhx=> ?_)
   ·simp_arith [↓eY,sp.at_,HO.ins.injEq,T.aV.cl,(mF T).1,(mF T).2.1,(mF T).2.2.1,(mF T).2.2.2.1,(mF T).2.2.2.2.1,(mF T).2.2.2.2.2.1,(mF T).2.2.2.2.2.2.1,(mF T).2.2.2.2.2.2.2,KA,GM,GO,DU,GN,JZ,KB,JY,DT]
    exact h
   ·rw[if_neg (by rw[Pr hx];simp)] at k
    simp_arith [↓eY,S.at_,HO.ins.injEq,T.bX.cl,(IQ T).1,(IQ T).2.1,(IQ T).2.2.1,(IQ T).2.2.2,SI,SK,SJ,SL,CK,CJ,CI,CH]
    exact k _ _ (aZ.refl H) (.inl rfl) S.la
   ·rw[if_pos (Mr hx)] at k
    simp_arith
    refine Ux (xs:=ZV rk) (λc:Nat=>V.int c) (λl=>if ws.contains ((nE b c.1 c.2 d l).map aQ)=true then some (V.int (l:Nat)) else none) (Ld H al) (λR h=> ?_) (λa' H1 c=>by rw[c.1,c.2];exact dX.of S.la) (cV (Xl rk) (by rw[aX];decide)) ?_ ?_
    ·simp_arith [↓eY,S.at_,HO.ins.injEq,T.bX.cl,(IQ T).1,(IQ T).2.1,(IQ T).2.2.1,(IQ T).2.2.2,SI,SK,SJ,SL,CK,CJ,CI,CH]
     exact h _ _ ⟨rfl,rfl⟩
    ·rintro _ _ D ⟨rfl,rfl⟩ hD i l H' acc Nx hz e1 e2 e3 ad
     have S1:=S.same e1
     have sp1:=sp.same e1
     simp_arith [Zz,sp1.at_,HO.ins.injEq]
     refine⟨DT ..,yJ sp1 λH2 q s2 hq hq'=> ?_⟩
     simp_arith
     refine tQ (l:=(nE b c.1 c.2 d l).map cF) (by rw[<-sT];exact dX.of hq') (by rw[aA,aX];exact cV (Ng ..) (by decide)) λH3 t s3 ht=> ?_
     have S3:=S1.same (s2.trans s3)
     rw[Fp] at ht
     simp_arith [↓eY,S3.at_,HO.ins.injEq,T.bX.cl,(IQ T).1,(IQ T).2.1,(IQ T).2.2.1,(IQ T).2.2.2,SI,SK,SJ,SL,CK,CJ,CI,CH]
     refine⟨_,EV.t S3.dws ht,?_⟩
     rw[Ex]
     split
     ·rename_i h
      rw[if_pos h] at ad
      exact rZ.yes ad e2 e3 (s2.trans s3)
     ·rename_i h
      rw[if_neg h] at ad
      exact rZ.no ad (s2.trans s3)
    ·rintro _ _ D H2 ⟨rfl,rfl⟩ hD e1 e2
     rw[xA] at e2
     exact k _ _ e1 (.inr hD) e2
abbrev sX:List Str:=["self","ways","ended","branch","rack","word"]
theorem gF:bV ["self","ways","ended","branch","rack","word"] ["self","ways"] (defScope kX):=⟨rfl,rfl,rfl,by decide+kernel,rfl,by decide+kernel,by decide+kernel⟩
def zA (ws:List (List Nat))(rk:List Nat)(wl:List EA):List (List Nat):=((wl.filter λz=>decide (z.2.length < rk.length)).map λz=>z.1).filter λu=>ws.contains u
def DC (K:PySem.W.Frag)(C CB:Addr):Sp:=λvs H Q _=>∃(s dx dw ar al a:Addr) (ws:List (List Nat)) (rk:List Nat) (f:List Nat->oB) (ks:List Nat->List Nat) (tw:List Nat->Addr) (zs:List (Addr×EA)) (ov:Addr),vs=[.ref s,.ref a]/\rJ K C CB H s dx dw ar al ws rk f ks tw/\BH K H f ov a zs/\(∀z∈zs,uB ws z.2.1)/\zs.length<=sizeLine/\
 ∀H' q,aZ H H'->H q=none->H' q=some (.lst ((zA ws rk (zs.map λz=>z.2)).map λu=>V.ref (tw u)))->Q (.ref q) H'
theorem PL {K:PySem.W.Frag}{C CB:Addr}{H:Hp}{Q:VK}{E:XK}{s dx dw ar al a:Addr}{ws:List (List Nat)}{rk:List Nat}{f:List Nat->oB}{ks:List Nat->List Nat}{tw:List Nat->Addr}{zs:List (Addr×EA)}{ov:Addr}(S:rJ K C CB H s dx dw ar al ws rk f ks tw)(W:BH K H f ov a zs)(hp:∀z∈zs,uB ws z.2.1)(hz:zs.length<=sizeLine)
  (k:∀H' q,aZ H H'->H q=none->H' q=some (.lst ((zA ws rk (zs.map λz=>z.2)).map λu=>V.ref (tw u)))->Q (.ref q) H'):DC K C CB [.ref s,.ref a] H Q E:=⟨s,dx,dw,ar,al,a,ws,rk,f,ks,tw,zs,ov,rfl,S,W,hp,hz,k⟩
theorem CD (T:kR K mg A F):Ok P w K mg 1 A.fT F.fT ["self","ways"] (DC K A.bX A.cQ):=λbase bb=>by
 refine T.fT.F.ok gF (λvs H Q E h=> ?_) (λcdv Ar outer s H vs Q E hr h=> ?_)
 ·obtain⟨s,dx,dw,ar,al,a,ws,rk,f,ks,tw,zs,ov,rfl,_⟩:=h
  rfl
 ·obtain⟨s,dx,dw,ar,al,a,ws,rk,f,ks,tw,zs,ov,rfl,S,W,hp,hz,k⟩:=h
  refine⟨_,(aO (xK (i:=2) rfl gF.nd rfl rfl (BU rfl rfl rfl rfl) (iY (pv 1)) (fN (N:=sX) (sc:=defScope kX) (own:=[("branch",3),("rack",4)]) (by decide+kernel)) (λ_ _ _ _ _=>(NK (K:=K) (n:=2) rfl rfl (iS (dG (i:=3) gF.nd rfl (cB rfl)) (iS (dG (i:=4) gF.nd rfl (cB rfl)) wG)))) (λ_ _ _ _ _=>sI (eB WK (eQ (KG (K:=K) rfl) (by rfl) T.sV PySem.boot_len (aB (pv 4) aL)) (eQ (KG (K:=K) rfl) (by rfl) T.sV PySem.boot_len (aB (sM (K:=K) rfl (pv 0) rfl) aL)) (eZ _))) (λ_ _ _ _ _=>(sM (K:=K) rfl (pv 3) rfl))) (aS (bU (tI rfl gF.nd (iY (pv 2)) (fN (N:=sX) (sc:=defScope kX) (own:=[("word",5)]) (by decide+kernel)) (λ_ _ _ _ _=>(dG (i:=5) gF.nd rfl (cB rfl))) (λ_ _ _ _ _=>sI (LC (Po (pv 5)))) (λ_ _ _ _ _=>(pv 5)))))),?_⟩
  have cl:=T.cQ.cl
  obtain⟨n1,n2⟩:=E9 T
  simp_arith
  refine Ux (xs:=zs) (λz=>V.ref z.1) (λz=>if decide (z.2.2.length < rk.length)=true then some (if ws.contains z.2.1=true then V.ref (tw z.2.1) else V.non) else none) (Ld H a) (λR h=>h _ _ ⟨rfl,rfl⟩) (λa' H1 c=>by rw[c.1,c.2];exact W.at_) hz ?_ ?_
  ·rintro _ _ D ⟨rfl,rfl⟩ hD i z H' acc Nx hzi e1 e2 e3 ad
   have hm:=aY hzi
   obtain⟨ra,w0,w1,w2⟩:=W.each z hm
   refine OF (e1 _ _ w1) ?_
   have S1:=S.same e1
   have hN:=S1.tr.node _ (hp z hm)
   simp_arith [↓eY,S1.at_,hN,cl,n2,U5,HO.ins.injEq,T.bX.cl,(IQ T).1,(IQ T).2.1,(IQ T).2.2.1,(IQ T).2.2.2,SI,SK,SJ,SL,CK,CJ,CI,CH]
   refine⟨_,.inl (e1.seq w2),_,.inl S1.rks,?_⟩
   rw[fX,fX]
   by_cases h:z.2.2.length < rk.length
   ·rw[if_pos (by omega)]
    rw[if_pos (decide_eq_true h)] at ad
    exact rZ.yes ad e2 e3 (aZ.refl _)
   ·rw[if_neg (by omega)]
    rw[if_neg (by simpa using h)] at ad
    exact rZ.no ad (aZ.refl _)
  ·rintro _ _ D H2 ⟨rfl,rfl⟩ hD e1 e2
   rw[xA] at e2
   simp_arith
   refine Ux (xs:=(zs.filter λz=>decide (z.2.2.length < rk.length)).map λz=>z.2.1) (λu=>if ws.contains u=true then V.ref (tw u) else V.non) (λu=>if ws.contains u=true then some (V.ref (tw u)) else none) (Ld H2 D) (λR h=>h _ _ ⟨rfl,rfl⟩) (λa' H1 c=>by rw[c.1,c.2,bR];exact dX.of e2) (by rw[aA];exact cV (jI _ _) hz) ?_ ?_
   ·rintro _ _ D2 ⟨rfl,rfl⟩ hD2 i u H' acc Nx hui t1 t2 t3 ad
    simp_arith [Hb]
    by_cases h:ws.contains u=true
    ·rw[if_pos h] at ad ⊢
     rw[if_pos (by intro z;cases z)]
     exact rZ.yes ad t2 t3 (aZ.refl _)
    ·rw[if_neg h] at ad ⊢
     rw[if_neg (by simp)]
     exact rZ.no ad (aZ.refl _)
   ·rintro _ _ D2 H3 ⟨rfl,rfl⟩ hD2 t1 t2
    rw[xA] at t2
    refine k _ _ (e1.trans t1) (e1.free hD2) ?_
    rw[t2]
    unfold zA
    have e:((zs.map λz=>z.2).filter λz=>decide (z.2.length < rk.length)).map (λz=>z.1)=(zs.filter λz=>decide (z.2.2.length < rk.length)).map λz=>z.2.1:=by
     rw[kM,bR];rfl
    rw[e]
end
section
variable (b:List Nat)(ws:List (List Nat))(rk:List Nat)(m d:Int)(ks:List Nat->List Nat)(st:Nat)
def tD:Nat->List EA
 | 0=>[([],rk)]
 | k+1=>JD b ks (bB m d ((st+k:Nat):Int)) (oX b ws rk d (bB m d ((st+k:Nat):Int))) (tD k)
def wJ (t0:Nat):Nat->List (List Nat)
 | 0=>[]
 | k+1=>wJ t0 k++if(decide (t0<=st+k)&&freeC b m d ((st+k+1:Nat):Int))=true then zA ws rk (tD b ws rk m d ks st (k+1)) else[]
def GL:Option Nat:=((fM b m d).filter λt=>decide (st<=t)).head?
def gD:List (List Nat):=match GL b m d st with
 | none=>[]
 | some t0=>if st+rk.length < t0 then[] else wJ b ws rk m d ks st t0 (15 - st)
end
theorem AZ {α:Type} [DecidableEq α]:∀{l m:List α},l.Nodup->(∀x∈l,x∈m)->l.length<=m.length
 | [],_,_,_=>cA _
 | x::l,m,nd,h=>by
  rw[dU] at nd
  have hx:x∈m:=h x (aT ..)
  have:=AZ (l:=l) (m:=m.erase x) nd.2 λy hy=>(xS (λz=>nd.1 (by rw[<-z];exact hy))).mpr (h y (aN _ hy))
  rw[mQ hx] at this
  have:0 < m.length:=uT hx
  rw[cM]
  omega
theorem MN (b:List Nat)(m d:Int):(fM b m d).Pairwise (·< ·):=by
 unfold fM
 split
 ·split <;> simp
 ·exact De _ Up
theorem Ms {b:List Nat}{m d:Int}{st:Nat}(h:(fM b m d).filter (λt=>decide (st<=t))=[]):GL b m d st=none:=by unfold GL;rw[h];rfl
theorem WW {b:List Nat}{m d:Int}{st t:Nat}(ht:t∈fM b m d)(hs:st<=t)(hm:∀u∈fM b m d,st<=u->t<=u):GL b m d st=some t:=by
 unfold GL
 have hf:t∈(fM b m d).filter λt=>decide (st<=t):=bO.mpr ⟨ht,decide_eq_true hs⟩
 have hp:((fM b m d).filter λt=>decide (st<=t)).Pairwise (·< ·):=(MN b m d).filter _
 have hm':∀u∈(fM b m d).filter (λt=>decide (st<=t)),t<=u:=λu hu=>hm u (bO.mp hu).1 (of_decide_eq_true (bO.mp hu).2)
 generalize (fM b m d).filter (λt=>decide (st<=t))=l at hf hp hm' ⊢
 cases l with
 | nil=>simp at hf
 | cons x l=>
  rw[P6]
  have h1:=hm' x (aT ..)
  rcases bN.mp hf with e | h2
  ·rw[e]
  ·have:=(oM.mp hp).1 t h2
   congr 1
   omega
structure wV (ws:List (List Nat))(ks:List Nat->List Nat):Prop where
 keys:∀u,uB ws u->∀c,c∈ks u↔uB ws (u++[c])
 nd:∀u,uB ws u->(ks u).Nodup
theorem Ao {r r':List Nat}{c:Nat}(h:qX r c=some r'):r'.length+1=r.length:=by
 unfold qX at h
 split at h
 ·rename_i hc
  cases h
  have hm:=aR.mp hc
  rw[mQ hm]
  have:=uT hm
  omega
 ·split at h
  ·rename_i hc
   cases h
   have hm:=aR.mp hc
   rw[mQ hm]
   have:=uT hm
   omega
  ·cases h
theorem Ey {ks:List Nat->List Nat}{lt:List Nat}{wl:List EA}{y:EA}(h:y∈qY ks lt wl):∃z∈wl,∃l∈ks z.1,lt.contains l=true/\qX z.2 l=some y.2/\y.1=z.1++[l]:=by
 unfold qY at h
 obtain⟨z,hz,h⟩:=jN.mp h
 obtain⟨l,hl,h⟩:=lO.mp h
 unfold yA at h
 split at h
 ·rename_i hc
  obtain⟨r,hr,e⟩:=cK.mp h
  subst e
  exact⟨z,hz,l,hl,hc,hr,rfl⟩
 ·cases h
theorem F8 {ks:List Nat->List Nat}{lt:List Nat}{wl:List EA}{z:EA}{l:Nat}{r:List Nat}(hz:z∈wl)(hl:l∈ks z.1)(hc:lt.contains l=true)(hr:qX z.2 l=some r):(z.1++[l],r)∈qY ks lt wl:=by
 unfold qY
 refine jN.mpr ⟨z,hz,lO.mpr ⟨l,hl,?_⟩⟩
 unfold yA
 rw[if_pos hc,hr];rfl
theorem Ip {ks:List Nat->List Nat}{c:Nat}{wl:List EA}{y:EA}(h:y∈MP ks c wl):∃z∈wl,c∈ks z.1/\y=(z.1++[c],z.2):=by
 unfold MP at h
 obtain⟨z,hz,e⟩:=bE.mp h
 obtain⟨h1,h2⟩:=bO.mp hz
 exact⟨z,h1,aR.mp h2,e.symm⟩
theorem i7 {ks:List Nat->List Nat}{c:Nat}{wl:List EA}{z:EA}(hz:z∈wl)(hc:c∈ks z.1):(z.1++[c],z.2)∈MP ks c wl:=
 bE.mpr ⟨z,bO.mpr ⟨hz,aR.mpr hc⟩,rfl⟩
theorem Hg {ws:List (List Nat)}{ks:List Nat->List Nat}(hk:wV ws ks){lt:List Nat}:∀{wl:List EA},(∀z∈wl,uB ws z.1)->(wl.map λz=>z.1).Nodup->((qY ks lt wl).map λz=>z.1).Nodup
 | [],_,_=>nM
 | z::wl,hp,nd=>by
  rw[aJ,dU] at nd
  have ih:=Hg hk (lt:=lt) (λy hy=>hp y (aN _ hy)) nd.2
  have e:qY ks lt (z::wl)=(ks z.1).filterMap (yA lt z)++qY ks lt wl:=by unfold qY;rw[pO]
  rw[e,cC]
  refine YU.mpr ⟨?_,ih,λa ha a' ha' z'=> ?_⟩
  ·have key:∀l:List Nat,l.Nodup->((l.filterMap (yA lt z)).map λy=>y.1).Nodup:=by
    intro l
    induction l with
    | nil=>intro _;exact nM
    | cons c l ih=>
     intro nd
     rw[dU] at nd
     rw[dM]
     cases hkw:yA lt z c with
     | none=>exact ih nd.2
     | some y=>
      rw[aJ,dU]
      refine⟨λhm=> ?_,ih nd.2⟩
      obtain⟨y',hy',e'⟩:=bE.mp hm
      obtain⟨c',hc',hk'⟩:=lO.mp hy'
      have e1:y.1=z.1++[c]:=by
       unfold yA at hkw
       split at hkw
       ·obtain⟨r,_,e⟩:=cK.mp hkw
        rw[<-e]
       ·cases hkw
      have e2:y'.1=z.1++[c']:=by
       unfold yA at hk'
       split at hk'
       ·obtain⟨r,_,e⟩:=cK.mp hk'
        rw[<-e]
       ·cases hk'
      rw[e1,e2] at e'
      have:=HI e'
      simp at this
      exact nd.1 (by rw[<-this];exact hc')
   exact key _ (hk.nd z.1 (hp z (aT ..)))
  ·obtain⟨y,hy,rfl⟩:=bE.mp ha
   obtain⟨y',hy',rfl⟩:=bE.mp ha'
   obtain⟨c,hc,hkw⟩:=lO.mp hy
   have e1:y.1=z.1++[c]:=by
    unfold yA at hkw
    split at hkw
    ·obtain⟨r,_,e⟩:=cK.mp hkw
     rw[<-e]
    ·cases hkw
   obtain⟨z2,hz2,l2,_,_,_,e2⟩:=Ey hy'
   rw[e1,e2] at z'
   exact nd.1 (bE.mpr ⟨z2,hz2,(wC z' rfl).symm⟩)
theorem Vy {ks:List Nat->List Nat}{c:Nat}{wl:List EA}(nd:(wl.map λz=>z.1).Nodup):((MP ks c wl).map λz=>z.1).Nodup:=by
 unfold MP
 rw[bR]
 have h1:((wl.filter λz=>(ks z.1).contains c).map λz=>z.1).Nodup:=nd.sublist (Oj _ (Zo ..))
 have e:((λz:EA=>z.1) ∘ λz=>(z.1++[c],z.2))=(λu=>u++[c]) ∘ λz:EA=>z.1:=rfl
 rw[e, <-bR]
 exact WU (λi _ j _ z=>wC z rfl) h1
section
variable {b:List Nat}{ws:List (List Nat)}{rk:List Nat}{m d:Int}{ks:List Nat->List Nat}{st:Nat}
theorem HM (hk:wV ws ks):∀k,(∀z∈tD b ws rk m d ks st k,z.1.length=k/\uB ws z.1/\z.2.length<=rk.length)/\((tD b ws rk m d ks st k).map λz=>z.1).Nodup
 | 0=>by
  refine⟨λz hz=> ?_,by simp[tD]⟩
  have:z=([],rk):=by simpa[tD] using hz
  rw[this]
  exact⟨rfl,.inl rfl,aU _⟩
 | k+1=>by
  obtain⟨h1,h2⟩:=HM hk k
  unfold tD JD
  split
  ·refine⟨λy hy=> ?_,Hg hk (λz hz=>(h1 z hz).2.1) h2⟩
   obtain⟨z,hz,l,hl,_,hr,e⟩:=Ey hy
   obtain⟨a1,a2,a3⟩:=h1 z hz
   have:=Ao hr
   refine⟨by rw[e,bZ,a1];rfl,by rw[e];exact(hk.keys z.1 a2 l).mp hl,by omega⟩
  ·refine⟨λy hy=> ?_,Vy h2⟩
   obtain⟨z,hz,hc,e⟩:=Ip hy
   obtain⟨a1,a2,a3⟩:=h1 z hz
   rw[e]
   exact⟨by rw[bZ,a1];rfl,(hk.keys z.1 a2 _).mp hc,a3⟩
theorem Oq (hk:wV ws ks)(k:Nat):(tD b ws rk m d ks st k).length<=ws.length+1:=by
 obtain⟨h1,h2⟩:=HM (b:=b) (rk:=rk) (m:=m) (d:=d) (st:=st) hk k
 have:=AZ (m:=[]::ws.map λw=>w.take k) h2 λu hu=>by
  obtain⟨z,hz,rfl⟩:=bE.mp hu
  obtain⟨a1,a2,_⟩:=h1 z hz
  rcases a2 with a2 | ⟨w,hw,hp⟩
  ·rw[a2];exact aT ..
  ·refine aN _ (bE.mpr ⟨w,hw,?_⟩)
   rw[<-a1]
   exact(List.prefix_iff_eq_take.mp hp).symm
 rw[aA,cM,aA] at this
 exact this
theorem Gp {k:Nat}(h:tD b ws rk m d ks st k=[]):∀n,tD b ws rk m d ks st (k+n)=[]
 | 0=>h
 | n+1=>by
  show JD b ks _ _ (tD b ws rk m d ks st (k+n))=[]
  rw[Gp h n]
  unfold JD qY MP
  split <;> rfl
theorem Jp {t0 k:Nat}(h:tD b ws rk m d ks st (k+1)=[]):∀n,wJ b ws rk m d ks st t0 (k+n)=wJ b ws rk m d ks st t0 k
 | 0=>rfl
 | n+1=>by
  have e:tD b ws rk m d ks st (k+n+1)=[]:=by
   have:=Gp h n
   rwa [show k+1+n=k+n+1 by omega] at this
  have e2:wJ b ws rk m d ks st t0 (k+(n+1))=wJ b ws rk m d ks st t0 (k+n)++if(decide (t0<=st+(k+n))&&freeC b m d ((st+(k+n)+1:Nat):Int))=true then zA ws rk (tD b ws rk m d ks st (k+n+1)) else[]:=rfl
  rw[e2,Jp h n,e]
  split <;> simp[zA]
theorem UM (hk:wV ws ks){t0:Nat}:∀k,(wJ b ws rk m d ks st t0 k).Nodup/\∀u∈wJ b ws rk m d ks st t0 k,u∈ws/\u.length<=k
 | 0=>⟨nM,λu hu=>by simp[wJ] at hu⟩
 | k+1=>by
  obtain⟨i1,i2⟩:=UM hk (t0:=t0) k
  obtain⟨w1,w2⟩:=HM (b:=b) (rk:=rk) (m:=m) (d:=d) (st:=st) hk (k+1)
  unfold wJ
  split
  ·have hE:∀u∈zA ws rk (tD b ws rk m d ks st (k+1)),u∈ws/\u.length=k+1:=λu hu=>by
    unfold zA at hu
    obtain⟨h1,h2⟩:=bO.mp hu
    obtain⟨z,hz,rfl⟩:=bE.mp h1
    exact⟨aR.mp h2,(w1 z (bO.mp hz).1).1⟩
   refine⟨YU.mpr ⟨i1,?_,λa ha a' ha' e=> ?_⟩,λu hu=> ?_⟩
   ·unfold zA
    exact(w2.sublist (Oj _ (Zo ..))).filter _
   ·have:=(i2 a ha).2
    have:=(hE a' ha').2
    rw[e] at *
    omega
   ·rcases cW.mp hu with hu | hu
    ·exact⟨(i2 u hu).1,N9 (i2 u hu).2⟩
    ·exact⟨(hE u hu).1,zX (hE u hu).2⟩
  ·rw[eX]
   exact⟨i1,λu hu=>⟨(i2 u hu).1,N9 (i2 u hu).2⟩⟩
theorem Qm (hk:wV ws ks){t0 k:Nat}:(wJ b ws rk m d ks st t0 k).length<=ws.length:=AZ (UM hk k).1 λu hu=>((UM hk k).2 u hu).1
end
structure YV (K:PySem.W.Frag)(H:Hp)(a:Addr)(b:List Nat)(ws:List (List Nat))(rk:List Nat)(m d:Int)(qs:List Addr):Prop where
 at_:dX K H a (qs.map λq=>V.ref q)
 len:qs.length=15
 each:∀(i:Nat) q,qs[i]? =some q->dX K H q (cT (oX b ws rk d (bB m d i)))
theorem YV.rel {Rl:Hp->Hp->Prop}(R:RC Rl){K:PySem.W.Frag}{H H':Hp}{a:Addr}{b:List Nat}{ws:List (List Nat)}{rk:List Nat}{m d:Int}{qs:List Addr}(h:YV K H a b ws rk m d qs)(e:Rl H H'):YV K H' a b ws rk m d qs:=⟨R.seq e h.at_,h.len,λi q hq=>R.seq e (h.each i q hq)⟩
theorem rJ.ks {K:PySem.W.Frag}{C CB:Addr}{H:Hp}{s dx dw ar al:Addr}{ws:List (List Nat)}{rk:List Nat}{f:List Nat->oB}{ks:List Nat->List Nat}{tw:List Nat->Addr}(h:rJ K C CB H s dx dw ar al ws rk f ks tw):wV ws ks:=⟨λu hu c=>h.tr.keys u hu c,λu hu=>h.tr.nd u hu⟩
theorem Pc {K:PySem.W.Frag}{H:Hp}{a D:Addr}{o:HO}{xs:List V}(n:a≠D)(q:dX K H a xs):dX K (L2.upd H D o) a xs:=by
 rcases q with(q | ⟨u,q⟩) | q
 ·exact .inl (.inl (by rw[aM n];exact q))
 ·exact .inl (.inr ⟨u,by rw[aM n];exact q⟩)
 ·exact .inr q
section
variable {P:bS}{w:cY}{K:PySem.W.Frag}{mg:Str->Option aC}{A:Ad}{F:Fd}
theorem gV:bV ["self","line","letters","start","touching","found","ways","place"] ["self","line","letters","start"] (defScope vU):=⟨rfl,rfl,rfl,by decide+kernel,rfl,by decide+kernel,by decide+kernel⟩
def JE (K:PySem.W.Frag)(C CB CL CS:Addr):Sp:=λvs H Q _=>∃(s dx dw ar al p a:Addr) (ws:List (List Nat)) (b rk:List Nat) (m d:Int) (st:Nat) (f:List Nat->oB) (ks:List Nat->List Nat) (tw:List Nat->Addr) (qs:List Addr),vs=[.ref s,.ref p,.ref a,.int st]/\rJ K C CB H s dx dw ar al ws rk f ks tw/\rO K CL CS H b p (m,d)/\YV K H a b ws rk m d qs/\TY ws/\BM b/\rk.length<=7/\st < 15/\H ar=some (.lst (cT rk))/\
 ∀H' q,aZ H H'->H q=none->H' q=some (.lst ((gD b ws rk m d ks st).map λu=>V.ref (tw u)))->Q (.ref q) H'
theorem US {K:PySem.W.Frag}{C CB CL CS:Addr}{H:Hp}{Q:VK}{E:XK}{s dx dw ar al p a:Addr}{ws:List (List Nat)}{b rk:List Nat}{m d:Int}{st:Nat}{f:List Nat->oB}{ks:List Nat->List Nat}{tw:List Nat->Addr}{qs:List Addr}(S:rJ K C CB H s dx dw ar al ws rk f ks tw)(L:rO K CL CS H b p (m,d))(G:YV K H a b ws rk m d qs)(hw:TY ws)(hb:BM b)(hr:rk.length<=7)(hs:st < 15)(har:H ar=some (.lst (cT rk)))
  (k:∀H' q,aZ H H'->H q=none->H' q=some (.lst ((gD b ws rk m d ks st).map λu=>V.ref (tw u)))->Q (.ref q) H'):JE K C CB CL CS [.ref s,.ref p,.ref a,.int st] H Q E:=⟨s,dx,dw,ar,al,p,a,ws,b,rk,m,d,st,f,ks,tw,qs,rfl,S,L,G,hw,hb,hr,hs,har,k⟩
theorem GI (T:kR K mg A F):Ok P w K mg 4 A.gK F.gK ["self","line","letters","start"] (JE K A.bX A.cQ A.bT A.aV):=λbase bb=>by
 refine T.gK.F.ok gV (λvs H Q E h=> ?_) (λcdv Ar outer s H vs Q E hr h=> ?_)
 ·obtain⟨s,dx,dw,ar,al,p,a,ws,b,rk,m,d,st,f,ks,tw,qs,rfl,_⟩:=h
  rfl
 ·obtain⟨s,dx,dw,ar,al,p,a,ws,b,rk,m,d,st,f,ks,tw,qs,rfl,S,L,G,hw,hb,hrk,hst,har,k⟩:=h
  refine⟨_,(aO (dJ (i:=4) gV.nd rfl (cB rfl) (IL (pv 1) T.bT T.gA (EI T base bb) hr (aB (pv 3) aL))) (aO (gC (PW.pt (Hz (LC (Wx (pv 4))) (WA (eB Wz (eL sN (pv 4) (pv 3)) (eQ eR (by rfl) T.sV PySem.boot_len (aB (bY (pv 0) rfl) aL)) (eZ _))))) (aS (bU (gJ aL))) dN) (aO (dJ (i:=5) gV.nd rfl (cB rfl) (gJ aL)) (aO (dJ (i:=6) gV.nd rfl (cB rfl) (gJ (aB (Ed (aB (bY (pv 0) rfl) (aB (bY (pv 0) rfl) aL))) aL))) (aO (tW eP rfl (Bl rfl T.wN (aB (pv 3) (aB (fF rfl T.vP) aL))) (dG (i:=7) gV.nd rfl (cB rfl)) (aO (dJ (i:=6) gV.nd rfl (cB rfl) (oF T.qV (Ej T base bb) hr (aB (pv 6) (aB (uM qE (bY (pv 1) rfl) (pv 7) (λ_ _=>rfl)) (aB (uM qE (pv 2) (pv 7) (λ_ _=>rfl)) aL))))) (aO (gC (eB (Mn hr.units) (pv 6) (gJ aL) (eZ _)) (aS Wl) dN) (aS (gC (PW.pt (Mf (eB Pp (pv 7) (pv 4) (eZ _)) (Ea (gI (IL (pv 1) T.bT T.jZ (DS T base bb) hr (aB (eL jR (pv 7) dS) aL)))))) (aS (sJ (JU PySem.F.plainAttrs_list PySem.F.slot_list_extend PySem.F.type_list_extend HW (pv 5) (aB (IL (pv 0) T.bX T.fT (CD T base bb) hr (aB (pv 6) aL)) aL)))) dN))))) (aS (bU (pv 5)))))))),?_⟩
  obtain⟨ldx,ls,lt,lz,La⟩:=id L
  simp_arith [↓eY,La.at_,HO.ins.injEq,T.bT.cl,(vJ T).1,(vJ T).2.1,(vJ T).2.2.1,(vJ T).2.2.2,DX,DY,DW,DV,vN,vM,tY,vL,vK]
  have emp:∀{vs:L2.St} {H1:Hp},aZ H H1->gD b ws rk m d ks st=[]->C3 ZI vs H1 Q:=λ{vs H1} e1 e2=>by
   simp_arith [↓rQ]
   refine⟨cA _,λe he=>k _ _ (e1.trans (aZ.upd he)) (e1.free he) ?_⟩
   rw[aK,e2];rfl
  refine⟨p,b,m,d,st,rfl,L,λhno H1 s1=> ?_,λt ht hts htm H1 s1=> ?_⟩
  ·simp_arith [Vs]
   exact emp s1 (by unfold gD;rw[Ms hno])
  ·have eN:=WW ht hts htm
   have S1:=S.same s1
   simp_arith [Vs]
   simp_arith [↓eY,S1.at_,HO.ins.injEq,T.bX.cl,(IQ T).1,(IQ T).2.1,(IQ T).2.2.1,(IQ T).2.2.2,SI,SK,SJ,SL,CK,CJ,CI,CH]
   rw[if_neg (by intro z;cases z)]
   refine⟨_,.inl S1.rks,?_⟩
   rw[fX]
   split
   ·rename_i h
    exact emp s1 (by unfold gD;rw[eN];exact if_pos (by omega))
   ·rename_i h
    have eW:gD b ws rk m d ks st=wJ b ws rk m d ks st t (15 - st):=by unfold gD;rw[eN];exact if_neg (by omega)
    rw[eW] at k
    have hk:=S.ks
    simp_arith only[↓rQ]
    refine⟨cA _,λo ho=> ?_⟩
    have s2:aZ H1 (L2.upd H1 o (.lst [])):=aZ.upd ho
    have S2:=S1.same s2
    have o2:(L2.upd H1 o (.lst [])) o=some (.lst []):=aK
    generalize L2.upd H1 o (.lst [])=H2 at s2 S2 o2 ⊢
    simp_arith [↓eY,S2.at_,HO.ins.injEq,T.bX.cl,(IQ T).1,(IQ T).2.1,(IQ T).2.2.1,(IQ T).2.2.2,SI,SK,SJ,SL,CK,CJ,CI,CH]
    simp_arith [↓eY,S2.at_, ↓f7,HO.ins.injEq,T.bX.cl,(IQ T).1,(IQ T).2.1,(IQ T).2.2.1,(IQ T).2.2.2,SI,SK,SJ,SL,CK,CJ,CI,CH]
    refine⟨by rw[aX];decide,λtp htp=>⟨by rw[aX];decide,λwa hwa=> ?_⟩⟩
    have s3:aZ H2 (L2.upd H2 tp (.tup [.ref (f []).p,.ref ar])):=aZ.upd htp
    have t3:(L2.upd H2 tp (.tup [.ref (f []).p,.ref ar])) tp=some (.tup [.ref (f []).p,.ref ar]):=aK
    generalize L2.upd H2 tp (.tup [.ref (f []).p,.ref ar])=H3 at s3 t3 hwa ⊢
    have s4:aZ H3 (L2.upd H3 wa (.lst [.ref tp])):=aZ.upd hwa
    have w4:(L2.upd H3 wa (.lst [.ref tp])) wa=some (.lst [.ref tp]):=aK
    generalize L2.upd H3 wa (.lst [.ref tp])=H4 at s4 w4 ⊢
    have s14:=(s1.trans s2).trans (s3.trans s4)
    have o4:=(s3.trans s4) _ _ o2
    have hao:ar≠o:=λe=>by rw[<-e,s1 _ _ har] at ho;cases ho
    have hwo:wa≠o:=λe=>by rw[e,s3 _ _ o2] at hwa;cases hwa
    refine cj (lo:=st) (n:=15 - st) (λR h=> ?_) (by rw[aX];omega)
     (λi σ' H'=>aZ H H'/\∃(wa:Addr) (zs:List (Addr×EA)) (v7:Option V),σ'=[some (.ref s),some (.ref p),some (.ref a),some (.int st),some (.int t),some (.ref o),some (.ref wa),v7]/\wa≠o/\BH K H' f o wa zs/\zs.map (λz=>z.2)=tD b ws rk m d ks st i/\H' o=some (.lst ((wJ b ws rk m d ks st t i).map λu=>V.ref (tw u)))) ?_ ?_ ?_
    ·simp_arith
     have e15:((st+(15 - st):Nat):Int)=15:=by omega
     rw[e15] at h
     exact h
    ·refine⟨s14,wa,[(tp,([],rk))],none,rfl,hwo,⟨dX.of w4,λz hz=> ?_⟩,rfl,o4⟩
     rw[cP.mp hz]
     exact⟨ar,hao,s4 _ _ t3,(S.same s14).rks⟩
    ·rintro i σ' H' hi ⟨g1,wa,zs,v7,rfl,g2,g3,g4,g5⟩
     have L':rO K A.bT A.aV H' b p (m,d):=L.rel cS g1
     obtain⟨ldx,ls,lt,lz,La'⟩:=id L'
     have G':=G.rel cS g1
     have S':=S.same g1
     simp_arith only
     simp_arith [↓eY,La'.at_,HO.ins.injEq,T.bT.cl,(vJ T).1,(vJ T).2.1,(vJ T).2.2.1,(vJ T).2.2.2,DX,DY,DW,DV,vN,vM,tY,vL,vK]
     have hn:st+i < 15:=by omega
     obtain⟨z,hz⟩:∃z,lz[st+i]? =some z:=⟨_,aE (show st+i < lz.length by rw[La'.len];exact hn)⟩
     obtain⟨q0,hq0⟩:∃q0,qs[st+i]? =some q0:=⟨_,aE (show st+i < qs.length by rw[G.len];exact hn)⟩
     have sp:=La'.sp.each _ (aY hz)
     have ec:z.2=bB m d ((st+i:Nat):Int):=Qw La'.cs hz hn
     rw[ec] at sp
     have wi:=HM (b:=b) (rk:=rk) (m:=m) (d:=d) (st:=st) hk i
     have wl:=Oq (b:=b) (rk:=rk) (m:=m) (d:=d) (st:=st) hk i
     have wl':=Oq (b:=b) (rk:=rk) (m:=m) (d:=d) (st:=st) hk (i+1)
     have hzl:zs.length=(tD b ws rk m d ks st i).length:=by rw[<-g4,aA]
     have hstep:JD b ks (bB m d ((st+i:Nat):Int)) (oX b ws rk d (bB m d ((st+i:Nat):Int))) (zs.map λz=>z.2)=tD b ws rk m d ks st (i+1):=by rw[g4];rfl
     refine⟨_,_,_,_,rfl,rfl,La'.sp.at_,uO (j:=st+i) rfl (by rw[aP,hz];rfl),_,_,_,_,rfl,rfl,G'.at_,uO (j:=st+i) rfl (by rw[aP,hq0];rfl),?_⟩
     refine⟨wa,z.1,q0,b,_,d,_,uB ws,ws,f,ks,tw,zs,o,_,rfl,g5,(by intro kv e;cases e),S'.tr,g3,sp,hb,G'.each _ _ hq0,λy hy=> ?_,?_,?_,λH5 q zs' s5 hq hq' W' e5=> ?_⟩
     ·have:=wi.1 y.2 (by rw[<-g4];exact bE.mpr ⟨y,hy,rfl⟩)
      exact⟨this.2.1,cV this.2.2 hrk⟩
     ·rw[hzl,aX]
      have:=hw.len
      omega
     ·rw[hstep,aX]
      have:=hw.len
      omega
     rw[hstep] at e5
     have hqo:q≠o:=λe=>by rw[e,g5] at hq;cases hq
     have g15:=g1.trans s5
     simp_arith [↓rQ]
     refine⟨cA _,λen hen=> ?_⟩
     have s6:aZ H5 (L2.upd H5 en (.lst [])):=aZ.upd hen
     have n6:(L2.upd H5 en (.lst [])) en=some (.lst []):=aK
     generalize L2.upd H5 en (.lst [])=H6 at s6 n6 ⊢
     have W6:=W'.rel cS s6
     refine⟨q,en,_,rfl,rfl,W6.at_,n6,Kh ?_⟩
     have g16:=g15.trans s6
     have o6:=(s5.trans s6) _ _ g5
     by_cases hz0:zs'=[]
     ·rw[if_pos (by rw[hz0];rfl)]
      have hw0:tD b ws rk m d ks st (i+1)=[]:=by rw[<-e5,hz0];rfl
      have hf:=Jp (t0:=t) hw0 (15 - st - i)
      rw[show i+(15 - st - i)=15 - st by omega] at hf
      simp_arith [Vv]
      refine k _ o g16 (s1.free ho) ?_
      rw[hf]
      exact o6
     ·rw[if_neg (by simpa using hz0)]
      have skip:∀H7,aZ H6 H7->(decide (t<=st+i)&&freeC b m d ((st+i+1:Nat):Int))=false->aZ H H7/\q≠o/\∃x,BH K H7 f o q x/\x.map (λz=>z.2)=tD b ws rk m d ks st (i+1)/\H7 o=some (.lst ((wJ b ws rk m d ks st t (i+1)).map λu=>V.ref (tw u))):=λH7 s7 hc=>by
       refine⟨g16.trans s7,hqo,zs',W6.rel cS s7,e5,?_⟩
       have ef:wJ b ws rk m d ks st t (i+1)=wJ b ws rk m d ks st t i:=by
        show wJ b ws rk m d ks st t i++(if _ then _ else _)=_
        rw[if_neg (by rw[hc];simp),eX]
       rw[ef]
       exact s7 _ _ o6
      by_cases hti:t<=st+i
      ·rw[if_pos (by omega)]
       refine⟨_,_,g16 _ _ La.at_,tY ..,RQ (L.rel cS g16) λH7 s7=> ?_⟩
       have e1:((st+i:Nat):Int)+1=((st+i+1:Nat):Int):=by omega
       rw[e1]
       refine Kh ?_
       cases hfr:freeC b m d ((st+i+1:Nat):Int) with
       | false=>
        rw[if_neg (by simp)]
        exact skip H7 s7 (by rw[hfr,Y0])
       | true=>
        rw[if_pos rfl]
        have o7:=s7 _ _ o6
        refine⟨.inl ⟨rfl,_,dX.of o7⟩,_,_,(g16.trans s7) _ _ S.at_,CJ ..,PL (S.same (g16.trans s7)) (W6.rel cS s7) (λy hy=> ?_) ?_ λH8 q8 s8 hq8 hq8'=> ?_⟩
        ·exact((HM (b:=b) (rk:=rk) (m:=m) (d:=d) (st:=st) hk (i+1)).1 y.2 (by rw[<-e5];exact bE.mpr ⟨y,hy,rfl⟩)).2.1
        ·have:zs'.length=(tD b ws rk m d ks st (i+1)).length:=by rw[<-e5,aA]
         have:=hw.len
         rw[aX]
         omega
        rw[e5] at hq8'
        have ef:wJ b ws rk m d ks st t (i+1)=wJ b ws rk m d ks st t i++zA ws rk (tD b ws rk m d ks st (i+1)):=by
         show wJ b ws rk m d ks st t i++(if _ then _ else _)=_
         rw[if_pos (by rw[hfr,decide_eq_true hti];rfl)]
        have hlen:=Qm (b:=b) (rk:=rk) (m:=m) (d:=d) (st:=st) (t0:=t) (k:=i+1) hk
        have o8:=s8 _ _ o7
        have g18:=(g16.trans s7).trans s8
        have W8:=W6.rel cS (s7.trans s8)
        refine⟨o,q8,_,_,rfl,rfl,o8,hq8',?_,?_,hqo,zs',?_,e5,?_⟩
        ·rw[ef,bZ] at hlen
         rw[aA,aA,aX]
         have:=hw.len
         omega
        ·exact λc u e=>by rw[aM (bJ e (s1.free ho))];exact g18 _ _ e
        ·refine⟨Pc hqo W8.at_,λy hy=> ?_⟩
         obtain⟨ra,n1,n2,n3⟩:=W8.each y hy
         exact⟨ra,n1,by rw[aM (eK n2 o8 (by intro z;cases z))];exact n2,Pc n1 n3⟩
        ·rw[aK,ef,cC]
      ·rw[if_neg (by omega)]
       exact skip H6 (aZ.refl _) (by rw[decide_eq_false hti];rfl)
    ·rintro σ' H' ⟨g1,wa,zs,v7,rfl,g2,g3,g4,g5⟩
     simp_arith
     exact k _ o g1 (s1.free ho) g5
end
theorem xD {b:List Nat}{cs:List fU}{w:List Nat}(h:cs.length=w.length){i:Nat}(hi:i < w.length):(qW b cs w).getD i 0=if lR b (cs.getD i (0,0))=true then w.getD i 0 else aH b (cs.getD i (0,0)).1 (cs.getD i (0,0)).2:=by
 unfold qW
 have h2:i < cs.length:=by omega
 have hz:(cs.zip w)[i]? =some (cs[i],w[i]):=mB.mpr ⟨aE h2,aE hi⟩
 rw[aF,aP,hz]
 rw[aF,aE h2,aF,aE hi]
 rfl
theorem sR {l:List Nat}{i:Nat}(h:i < l.length):l.getD i 0∈l:=by
 rw[aF,aE h]
 exact HF h
theorem Xc {l:List Nat}{c:Nat}(h:c∈l):∃i,i < l.length/\l.getD i 0=c:=by
 obtain⟨i,hi,e⟩:=RM h
 exact⟨i,hi,by rw[aF,aE hi];exact e⟩
theorem ZH {b:List Nat}{cs:List fU}{w:List Nat}(hb:BM b)(h:cs.length=w.length)(hw:∀c∈w,65<=c/\c<=90):∀c∈qW b cs w,bI c=true:=λc hc=>by
 obtain⟨i,hi,rfl⟩:=Xc hc
 rw[wX h] at hi
 rw[xD h hi]
 split
 ·exact gR.mpr (.inl (hw _ (sR hi)))
 ·rename_i he
  rcases hb.at_ (cs.getD i (0,0)).1 (cs.getD i (0,0)).2 with z | z
  ·exact absurd (show lR b (cs.getD i (0,0))=true by unfold lR;rw[z];rfl) he
  ·exact z
theorem GT {b:List Nat}{d:Int}{cs:List fU}{ns:List Nat}(h:kU b d cs ns):ns.Nodup:=by
 have h1:((JT b cs).map cF).Nodup:=WU (λi _ j _ z=>oC z) ((wU ..).filter _)
 have h2:(ns.map cF).Nodup:=h.1.nodup_iff.mpr h1
 exact List.Pairwise.imp (λh e=>h (congrArg cF e)) (uS.mp h2)
theorem wZ {b:List Nat}{d:Int}{cs:List fU}{ns:List Nat}(h:kU b d cs ns){i:Nat}:i∈ns↔i < cs.length/\lR b (cs.getD i (0,0))=true:=by
 have h1:(i:Int)∈ns.map cF↔(i:Int)∈(JT b cs).map cF:=h.1.mem_iff
 have h2:∀l:List Nat,(i:Int)∈l.map cF↔i∈l:=λl=>⟨λz=>by
  obtain⟨j,hj,e⟩:=bE.mp z
  rw[<-oC e];exact hj,λz=>bE.mpr ⟨i,z,rfl⟩⟩
 rw[h2,h2] at h1
 rw[h1]
 unfold JT
 rw[bO,bM]
theorem zH:∀(ns left t:List Nat),ns.Nodup->(∀i∈ns,i < t.length->65<=t.getD i 0/\t.getD i 0<=90)->(∀c∈t,bI c=true)->(sD left t ns).length=t.length/\∀c∈sD left t ns,bI c=true
 | [],left,t,_,_,h=>⟨rfl,h⟩
 | i::ns,left,t,nd,hc,h=>by
  rw[dU] at nd
  rw[qF]
  split
  ·exact zH ns _ t nd.2 (λj hj=>hc j (aN _ hj)) h
  ·have:=zH ns left (t.set i (t.getD i 0+32)) nd.2 (λj hj hl=>by
    have hne:j≠i:=λe=>nd.1 (by rw[<-e];exact hj)
    rw[dO] at hl
    have e:(t.set i (t.getD i 0+32)).getD j 0=t.getD j 0:=by
     rw[aF,mM (fE hne), <-aF]
    rw[e]
    exact hc j (aN _ hj) hl) (λc hm=>by
    have hm1:=hm
    rcases Kx hm with hm | hm
    ·exact h c hm
    ·by_cases hi:i < t.length
     ·have:=hc i (aT ..) hi
      rw[hm,gR]
      omega
     ·rw[List.set_eq_of_length_le (by omega)] at hm1
      exact h c hm1)
   rw[dO] at this
   exact this
theorem EK.letters {b:List Nat}{d:Int}{cs:List fU}{w rk t:List Nat}(hb:BM b)(hl:cs.length=w.length)(hw:∀c∈w,65<=c/\c<=90)(h:EK b d cs w rk t):t.length=w.length/\∀c∈t,bI c=true:=by
 unfold EK at h
 have h0:=ZH hb hl hw
 have l0:=wX (b:=b) hl
 split at h
 ·obtain⟨ns,hv,rfl⟩:=h
  have:=zH ns rk _ (GT hv) (λi hi hil=>by
   obtain⟨h1,h2⟩:=(wZ hv).mp hi
   rw[xD hl (by omega),if_pos h2]
   exact hw _ (sR (by omega))) h0
  rw[l0] at this
  exact this
 ·rw[h]
  exact⟨l0,h0⟩
theorem C9 {m d:Int}(hd:d=0\/d=1){st n:Nat}(h:st+n<=15):((zQ m d).drop st).take n=dB (bB m d st).1 (bB m d st).2 d n:=by
 apply EB
 intro i
 by_cases hi:i < n
 ·rw[Oi hi,List.getElem?_drop,Bw (by omega)]
  unfold dB
  rw[aP,iU hi]
  unfold bB bQ
  rcases hd with rfl | rfl
  ·simp
  ·simp
 ·rw[eD (by rw[iH];omega)]
  unfold dB
  rw[eD (by rw[aA,cR];omega)]
section
variable {P:bS}{w:cY}{K:PySem.W.Frag}{mg:Str->Option aC}{A:Ad}{F:Fd}
theorem sF:bV ["self","line","start","word","spots","told"] ["self","line","start","word"] (defScope AM):=⟨rfl,rfl,rfl,by decide+kernel,rfl,by decide+kernel,by decide+kernel⟩
def Pd (b:List Nat)(m d:Int)(st:Nat)(t:List Nat):List Int×List Int:=([-jY b d (dB (bB m d st).1 (bB m d st).2 d t.length) t,d,(bB m d st).2,(bB m d st).1],t.map cF)
def pA (H0 H:Hp)(b rk:List Nat)(m d:Int)(st:Nat)(wd:List Nat)(q:Addr)(t:List Nat):Prop:=∃tl,H0 q=none/\H0 tl=none/\H q=some (.tup ((Pd b m d st t).1.map V.int++[.ref tl]))/\H tl=some (.lst (cT t))/\t.length=wd.length/\EK b d (dB (bB m d st).1 (bB m d st).2 d wd.length) wd rk t
def VE (K:PySem.W.Frag)(C CB CL CS PT:Addr):Sp:=λvs H Q _=>∃(s dx dw ar al p aw:Addr) (ws:List (List Nat)) (b rk wd:List Nat) (m d:Int) (st:Nat) (f:List Nat->oB) (ks:List Nat->List Nat) (tw:List Nat->Addr),vs=[.ref s,.ref p,.int st,.ref aw]/\rJ K C CB H s dx dw ar al ws rk f ks tw/\rO K CL CS H b p (m,d)/\KH K H aw (cT wd)/\BM b/\rk.length<=7/\st+wd.length<=15/\(d=0\/d=1)/\(∀c∈wd,65<=c/\c<=90)/\RB H PT/\
 ∀H' q t,Tk PT H H'->pA H H' b rk m d st wd q t->Q (.ref q) H'
theorem Gs {K:PySem.W.Frag}{C CB CL CS PT:Addr}{H:Hp}{Q:VK}{E:XK}{s dx dw ar al p aw:Addr}{ws:List (List Nat)}{b rk wd:List Nat}{m d:Int}{st:Nat}{f:List Nat->oB}{ks:List Nat->List Nat}{tw:List Nat->Addr}(S:rJ K C CB H s dx dw ar al ws rk f ks tw)(L:rO K CL CS H b p (m,d))(hw:KH K H aw (cT wd))(hb:BM b)(hr:rk.length<=7)(hs:st+wd.length<=15)(hd:d=0\/d=1)(hc:∀c∈wd,65<=c/\c<=90)(tb:RB H PT)
  (k:∀H' q t,Tk PT H H'->pA H H' b rk m d st wd q t->Q (.ref q) H'):VE K C CB CL CS PT [.ref s,.ref p,.int st,.ref aw] H Q E:=⟨s,dx,dw,ar,al,p,aw,ws,b,rk,wd,m,d,st,f,ks,tw,rfl,S,L,hw,hb,hr,hs,hd,hc,tb,k⟩
theorem NT (T:kR K mg A F):Ok P w K mg 5 A.jH F.jH ["self","line","start","word"] (VE K A.bX A.cQ A.bT A.aV A.tabP):=λbase bb=>by
 refine T.jH.F.ok sF (λvs H Q E h=> ?_) (λcdv Ar outer s H vs Q E hr h=> ?_)
 ·obtain⟨s,dx,dw,ar,al,p,aw,ws,b,rk,wd,m,d,st,f,ks,tw,rfl,_⟩:=h
  rfl
 ·obtain⟨s,dx,dw,ar,al,p,aw,ws,b,rk,wd,m,d,st,f,ks,tw,rfl,S,L,hw,hb,hrk,hst,hd,hcw,tb,k⟩:=h
  refine⟨_,(aO (dJ (i:=4) sF.nd rfl (cB rfl) (NM UH (bY (pv 1) rfl) (HQ (pv 2)) (HQ (eL jR (pv 2) (eQ eR (by rfl) T.sV PySem.boot_len (aB (pv 3) aL)))))) (aO (dJ (i:=5) sF.nd rfl (cB rfl) (oF T.jF (NO T base bb) hr (aB (pv 4) (aB (pv 3) (aB (bY (pv 0) rfl) aL))))) (aS (bU (Ed (aB (yW sC (oF T.jB (AW T base bb) hr (aB (pv 4) (aB (pv 5) aL)))) (aB (bY (pv 1) rfl) (aB (IL (pv 1) T.bT T.rM (En T base bb) hr (aB (pv 2) aL)) (aB (IL (pv 1) T.bT T.rN (Eo T base bb) hr (aB (pv 2) aL)) (aB (pv 5) aL)))))))))),?_⟩
  obtain⟨ldx,ls,lt,lz,La⟩:=id L
  simp_arith [↓eY,La.at_,P0,Ap,Sg,HO.ins.injEq,T.bT.cl,(vJ T).1,(vJ T).2.1,(vJ T).2.2.1,(vJ T).2.2.2,DX,DY,DW,DV,vN,vM,tY,vL,vK]
  refine⟨_,.inr hw,_,La.sp.at_,λa1 ha1=> ?_⟩
  have e1:QT (lz.map λz=>V.ref z.1) (some (st:Int)) (some ((st:Int)+((cT wd).length:Int)))=((lz.drop st).take wd.length).map λz=>V.ref z.1:=by
   rw[fX,Qv _ _ _ (by rw[aA,La.len];exact hst),TF,TH]
  rw[e1]
  have s1:aZ H (L2.upd H a1 (.lst (((lz.drop st).take wd.length).map λz=>V.ref z.1))):=aZ.upd ha1
  have a1':(L2.upd H a1 (.lst (((lz.drop st).take wd.length).map λz=>V.ref z.1))) a1=some (.lst (((lz.drop st).take wd.length).map λz=>V.ref z.1)):=aK
  generalize L2.upd H a1 (.lst (((lz.drop st).take wd.length).map λz=>V.ref z.1))=H1 at s1 a1' ⊢
  have S1:=S.same s1
  have Sl:oG K A.aV H1 a1 b d ((lz.drop st).take wd.length):=⟨dX.of a1',λz hz=>(La.same s1).sp.each z (List.mem_of_mem_drop (List.mem_of_mem_take hz))⟩
  have hsl:((lz.drop st).take wd.length).length=wd.length:=by rw[iH,qS,La.len];omega
  have hcs:((lz.drop st).take wd.length).map (λz=>z.2)=dB (bB m d st).1 (bB m d st).2 d wd.length:=by rw[TF,TH,La.cs,C9 hd hst]
  have hcl:(dB (bB m d st).1 (bB m d st).2 d wd.length).length=wd.length:=by rw[<-hcs,aA,hsl]
  simp_arith [↓eY,S1.at_,HO.ins.injEq,T.bX.cl,(IQ T).1,(IQ T).2.1,(IQ T).2.2.1,(IQ T).2.2.2,SI,SK,SJ,SL,CK,CJ,CI,CH]
  refine KQ Sl (cS.seqT s1 hw) S1.rks hb hsl (by omega) hrk (tb.same s1) λH2 tl t k2 htl htl' hT=> ?_
  rw[hcs] at hT
  obtain⟨tlen,tlet⟩:=hT.letters hb hcl hcw
  have Sl2:=Sl.rel (BZ _ _ _) k2
  simp_arith [↓f7]
  refine yK Sl2 (dX.of htl') (by rw[hsl,tlen]) (by omega) tlet λH3 s3=>asi ?_
  rw[hcs]
  have k3:Tk A.tabP H H3:=((Sm.same s1).trans k2).trans (Sm.same s3)
  have L3:rO K A.bT A.aV H3 b p (m,d):=L.rel (BZ _ _ _) k3
  have La3:=La.rel (BZ _ _ _) k3
  simp_arith [↓eY,La3.at_,HO.ins.injEq,T.bT.cl,(vJ T).1,(vJ T).2.1,(vJ T).2.2.1,(vJ T).2.2.2,DX,DY,DW,DV,vN,vM,tY,vL,vK]
  refine Lg L3 hd λH4 s4=> ?_
  have La4:=La3.same s4
  simp_arith [↓eY,La4.at_,HO.ins.injEq,T.bT.cl,(vJ T).1,(vJ T).2.1,(vJ T).2.2.1,(vJ T).2.2.2,DX,DY,DW,DV,vN,vM,tY,vL,vK]
  refine Lh (L3.rel cS s4) hd λH5 s5=>⟨by rw[aX];decide,λq hq=> ?_⟩
  have k5:=k3.trans (Sm.same (s4.trans s5))
  refine k _ q t (k5.trans (Sm.same (aZ.upd hq))) ⟨tl,k5.free hq,s1.free htl,?_,?_,tlen,hT⟩
  ·rw[aK]
   unfold Pd
   rw[tlen]
   rfl
  ·have:=(s3.trans (s4.trans s5)) _ _ htl'
   rw[aM (bJ this hq)]
   exact this
end
theorem LG {α β:Type}{F:α->β->Prop}:∀{a:List α} {b:List β},Paired F a b->∀{c:List α} {e:List β},Paired F c e->Paired F (a++c) (b++e)
 | _,_,.nil,_,_,h=>h
 | _,_,.cons r t,_,_,h=>.cons r (LG t h)
theorem LF {α α' β:Type}{F:α'->β->Prop}(f:α->α'):∀{a:List α} {b:List β},Paired (λx y=>F (f x) y) a b->Paired F (a.map f) b
 | _,_,.nil=>.nil
 | _,_,.cons r t=>.cons r (LF f t)
theorem Io {α β:Type}{S:α->Addr->β->Prop}:∀{is:List α} {ys:List V},Paired (λi v=>∃p t,v=V.ref p/\S i p t) is ys->∃zs:List (Addr×β),ys=zs.map (λz=>V.ref z.1)/\Paired (λi z=>S i z.1 z.2) is zs
 | _,_,.nil=>⟨[],rfl,.nil⟩
 | _,_,.cons (a:=i) ⟨p,t,e,s⟩ r=>by
  obtain⟨zs,h1,h2⟩:=Io r
  exact⟨(p,t)::zs,by rw[e,h1];rfl,.cons s h2⟩
theorem pA.back {H0 H1 H:Hp}{b rk:List Nat}{m d:Int}{st:Nat}{wd:List Nat}{q:Addr}{t:List Nat}(h:pA H1 H b rk m d st wd q t)(e:∀a,H1 a=none->H0 a=none):pA H0 H b rk m d st wd q t:=let ⟨tl,a1,a2,a⟩:=h;⟨tl,e _ a1,e _ a2,a⟩
theorem pA.rel {Rl:Hp->Hp->Prop}(R:RC Rl){H0 H H':Hp}{b rk:List Nat}{m d:Int}{st:Nat}{wd:List Nat}{q:Addr}{t:List Nat}(h:pA H0 H b rk m d st wd q t)(e:Rl H H'):pA H0 H' b rk m d st wd q t:=let ⟨tl,a1,a2,a3,a4,a⟩:=h;⟨tl,a1,a2,R.k e a3 rfl,R.k e a4 rfl,a⟩
theorem pA.bt {H0 H H5:Hp}{b rk:List Nat}{m d:Int}{st:Nat}{wd:List Nat}{q D:Addr}{o:HO}{t:List Nat}(h:pA H0 H b rk m d st wd q t)(hD:H0 D=some o)(e:Bt D H H5):pA H0 H5 b rk m d st wd q t:=let ⟨tl,a1,a2,a3,a4,a⟩:=h;⟨tl,a1,a2,e _ _ a3 (λz=>by rw[z,hD] at a1;cases a1) rfl,e _ _ a4 (λz=>by rw[z,hD] at a2;cases a2) rfl,a⟩
theorem ZC {b:List Nat}{ws:List (List Nat)}{rk:List Nat}{m d:Int}{ks:List Nat->List Nat}{st:Nat}(hk:wV ws ks){u:List Nat}(h:u∈gD b ws rk m d ks st):u∈ws/\u.length<=15 - st:=by
 unfold gD at h
 split at h
 ·simp at h
 ·split at h
  ·simp at h
  ·exact(UM hk _).2 u h
theorem IZ {b:List Nat}{ws:List (List Nat)}{rk:List Nat}{m d:Int}{ks:List Nat->List Nat}{st:Nat}(hk:wV ws ks):(gD b ws rk m d ks st).length<=ws.length:=by
 unfold gD
 split
 ·exact cA _
 ·split
  ·exact cA _
  ·exact Qm hk
section
variable {P:bS}{w:cY}{K:PySem.W.Frag}{mg:Str->Option aC}{A:Ad}{F:Fd}
abbrev tN:List Str:=["self","line","letters","ranks","start","words","spot","word"]
theorem fA:bV ["self","line","letters","ranks","start","words","spot","word"] ["self","line"] (defScope lH):=⟨rfl,rfl,rfl,by decide+kernel,rfl,by decide+kernel,by decide+kernel⟩
def rF (b:List Nat)(ws:List (List Nat))(rk:List Nat)(ks:List Nat->List Nat)(m d:Int)(n:Nat):List (Nat×List Nat):=(bA n).flatMap λ(st:Nat)=>if freeC b m d ((st:Int) - 1)=true then(gD b ws rk m d ks st).map λu=>(st,u) else[]
theorem QY {b:List Nat}{ws:List (List Nat)}{rk:List Nat}{m d:Int}{ks:List Nat->List Nat}(hk:wV ws ks)(hw:TY ws):∀n,(rF b ws rk ks m d n).length<=n * 4096
 | 0=>aU _
 | n+1=>by
  have e:rF b ws rk ks m d (n+1)=rF b ws rk ks m d n++(if freeC b m d ((n:Int) - 1)=true then(gD b ws rk m d ks n).map λu=>(n,u) else[]):=by
   unfold rF
   rw[pC,rY,pO,Ah,eX]
  have:=QY (b:=b) (rk:=rk) (m:=m) (d:=d) hk hw n
  have h2:=IZ (b:=b) (rk:=rk) (m:=m) (d:=d) (st:=n) hk
  have:=hw.len
  rw[e,bZ]
  split
  ·rw[aA];omega
  ·simp;omega
def FI (K:PySem.W.Frag)(C CB CL CS PT:Addr):Sp:=λvs H Q _=>∃(s dx dw ar al p:Addr) (ws:List (List Nat)) (b rk:List Nat) (m d:Int) (f:List Nat->oB) (ks:List Nat->List Nat) (tw:List Nat->Addr),vs=[.ref s,.ref p]/\rJ K C CB H s dx dw ar al ws rk f ks tw/\rO K CL CS H b p (m,d)/\TY ws/\BM b/\rk.length<=7/\(d=0\/d=1)/\H ar=some (.lst (cT rk))/\RB H PT/\
 ∀H' q (zs:List (Addr×List Nat)),Tk PT H H'->H q=none->H' q=some (.lst (zs.map λz=>V.ref z.1))->Paired (λ(c:Nat×List Nat) z=>pA H H' b rk m d c.1 c.2 z.1 z.2) (rF b ws rk ks m d 15) zs->Q (.ref q) H'
theorem TK {K:PySem.W.Frag}{C CB CL CS PT:Addr}{H:Hp}{Q:VK}{E:XK}{s dx dw ar al p:Addr}{ws:List (List Nat)}{b rk:List Nat}{m d:Int}{f:List Nat->oB}{ks:List Nat->List Nat}{tw:List Nat->Addr}(S:rJ K C CB H s dx dw ar al ws rk f ks tw)(L:rO K CL CS H b p (m,d))(hw:TY ws)(hb:BM b)(hr:rk.length<=7)(hd:d=0\/d=1)(har:H ar=some (.lst (cT rk)))(tb:RB H PT)
  (k:∀H' q (zs:List (Addr×List Nat)),Tk PT H H'->H q=none->H' q=some (.lst (zs.map λz=>V.ref z.1))->Paired (λ(c:Nat×List Nat) z=>pA H H' b rk m d c.1 c.2 z.1 z.2) (rF b ws rk ks m d 15) zs->Q (.ref q) H'):FI K C CB CL CS PT [.ref s,.ref p] H Q E:=⟨s,dx,dw,ar,al,p,ws,b,rk,m,d,f,ks,tw,rfl,S,L,hw,hb,hr,hd,har,tb,k⟩
theorem EG (T:kR K mg A F):Ok P w K mg 6 A.fY F.fY ["self","line"] (FI K A.bX A.cQ A.bT A.aV A.tabP):=λbase bb=>by
 refine T.fY.F.ok fA (λvs H Q E h=> ?_) (λcdv Ar outer s H vs Q E hr h=> ?_)
 ·obtain⟨s,dx,dw,ar,al,p,ws,b,rk,m,d,f,ks,tw,rfl,_⟩:=h
  rfl
 ·obtain⟨s,dx,dw,ar,al,p,ws,b,rk,m,d,f,ks,tw,rfl,S,L,hw,hb,hrk,hd,har,tb,k⟩:=h
  refine⟨_,(aO (gC (eB (Mn hr.units) (bY (pv 1) rfl) (gJ aL) (eZ _)) (aS (bU (gJ aL))) dN) (aO (xK (i:=2) rfl fA.nd rfl rfl (BU rfl rfl rfl rfl) (iY (bY (pv 1) rfl)) (fN (N:=tN) (sc:=defScope lH) (own:=[("spot",6)]) (by decide+kernel)) (λ_ _ _ _ _=>(dG (i:=6) fA.nd rfl (cB rfl))) (λ_ _ _ _ _=>oE) (λ_ _ _ _ _=>(IL (pv 0) T.bX T.fZ (EH T base bb) hr (aB (pv 6) aL)))) (aO (dJ (i:=3) fA.nd rfl (cB rfl) (gJ aL)) (aO (tW eP rfl (tX rfl T.wN (aB (fF rfl T.vP) aL)) (dG (i:=4) fA.nd rfl (N8 rfl)) (aS (gC (gI (IL (pv 1) T.bT T.jZ (DS T base bb) hr (aB (eL sN (pv 4) dS) aL))) (aO (dJ (i:=5) fA.nd rfl (cB rfl) (IL (pv 0) T.bX T.gK (GI T base bb) hr (aB (pv 1) (aB (pv 2) (aB (pv 4) aL))))) (aS (sJ (JU PySem.F.plainAttrs_list PySem.F.slot_list_extend PySem.F.type_list_extend HW (pv 3) (aB (tI rfl fA.nd (iY (pv 5)) (fN (N:=tN) (sc:=defScope lH) (own:=[("word",7)]) (by decide+kernel)) (λ_ _ _ _ _=>(dG (i:=7) fA.nd rfl (cB rfl))) (λ_ _ _ _ _=>oE) (λ_ _ _ _ _=>(IL (pv 0) T.bX T.jH (NT T base bb) hr (aB (pv 1) (aB (pv 4) (aB (pv 7) aL)))))) aL))))) dN))) (aS (bU (pv 3))))))),?_⟩
  obtain⟨ldx,ls,lt,lz,La⟩:=id L
  have hk:=S.ks
  simp_arith [↓eY,La.at_, ↓rQ,HO.ins.injEq,T.bT.cl,(vJ T).1,(vJ T).2.1,(vJ T).2.2.1,(vJ T).2.2.2,DX,DY,DW,DV,vN,vM,tY,vL,vK]
  refine⟨cA _,λe0 he0=> ?_⟩
  have s0:aZ H (L2.upd H e0 (.lst [])):=aZ.upd he0
  have n0:(L2.upd H e0 (.lst [])) e0=some (.lst []):=aK
  generalize L2.upd H e0 (.lst [])=H0 at s0 n0 ⊢
  have La0:=La.same s0
  refine⟨lt,e0,_,rfl,rfl,dX.of La0.tc,n0,Kh ?_⟩
  by_cases ht:fM b m d=[]
  ·rw[if_pos (by rw[ht];rfl)]
   have hcl:rF b ws rk ks m d 15=[]:=by
    unfold rF
    rw[List.flatMap_eq_nil_iff]
    intro st _
    have:gD b ws rk m d ks st=[]:=by unfold gD GL;rw[ht];rfl
    rw[this]
    split <;> rfl
   simp_arith [↓rQ]
   refine⟨cA _,λe he=>k _ e [] (Sm.same (s0.trans (aZ.upd he))) (s0.free he) aK ?_⟩
   rw[hcl]
   exact .nil
  ·rw[if_neg (by cases h:fM b m d with | nil=>exact absurd h ht | cons x l=>simp[cT])]
   have S0:=S.same s0
   refine bx (xs:=lz) cS (λz=>V.ref z.1) (λ_=>true) (λz v H'=>∃q,v=.ref q/\dX K H' q (cT (oX b ws rk d z.2))) (Ld H0 ls) (λR h=> ?_) (λa' H1 c=>by rw[c.1,c.2];exact La0.sp.at_) (KS (by rw[La.len];exact aU _)) ?_ ?_
   ·simp_arith [↓eY,La0.at_,HO.ins.injEq,T.bT.cl,(vJ T).1,(vJ T).2.1,(vJ T).2.2.1,(vJ T).2.2.2,DX,DY,DW,DV,vN,vM,tY,vL,vK]
    exact h _ _ ⟨rfl,rfl⟩
   ·rintro _ _ D ⟨rfl,rfl⟩ hD i z H' hz s1 acc Nx hacc hlt ad
    have S1:=S0.same s1
    simp_arith [S1.at_,HO.ins.injEq]
    refine⟨CK ..,TM S1 ((La0.same s1).sp.each z (aY hz)) λH2 q s2 hq hq'=> ?_⟩
    refine ad.add rfl hacc hlt cS s2 λH5 b5=>⟨q,rfl,dX.of (b5 _ _ hq' (λe=> ?_) rfl)⟩
    rcases hq with hq | hq
    ·have:=S0.la
     rw[<-hq,e,hD] at this
     cases this
    ·rw[e,hacc] at hq
     cases hq
   ·rintro _ _ D H1 ys ⟨rfl,rfl⟩ hD s1 hy hp
    rw[tZ] at hp
    obtain⟨zq,rfl,h2,h3⟩:=HU (S:=λ(q:Addr) (c:fU)=>dX K H1 q (cT (oX b ws rk d c))) (λz:Addr×fU=>z.2) hp
    have G1:YV K H1 D b ws rk m d (zq.map λz=>z.1):=by
     refine⟨by rw[bR];exact dX.of hy,?_,λi q hq=> ?_⟩
     ·have:=congrArg iI h2
      rw[aA,aA] at this
      rw[aA,this,La.len]
     ·rw[aP] at hq
      obtain⟨z,hz,rfl⟩:=cK.mp hq
      have h:=h3 z (aY hz)
      have hi:i < 15:=by
       have h1:=(bL.mp hz).1
       have:=congrArg iI h2
       rw[aA,aA,La.len] at this
       omega
      have e2:z.2=bB m d i:=Qw (by rw[h2];exact La.cs) hz hi
      rw[e2] at h
      exact h
    generalize (zq.map λz=>z.1)=qs at G1
    have s01:=s0.trans s1
    simp_arith [↓rQ]
    refine⟨cA _,λo ho=> ?_⟩
    have s2:aZ H1 (L2.upd H1 o (.lst [])):=aZ.upd ho
    have o2:(L2.upd H1 o (.lst [])) o=some (.lst []):=aK
    have G2:=G1.rel cS s2
    have G2':∀H3,Tk A.tabP H1 H3->YV K H3 D b ws rk m d qs:=λH3 e=>G1.rel (BZ _ _ _) e
    have back2:∀{H4:Hp} {xs:List V},Tk A.tabP H1 H4->H4 o=some (.lst xs)->∀a,H4 a=none->(L2.upd H1 o (.lst [])) a=none:=λ{H4 xs} e h a ha=>by
     have n:a≠o:=λz=>by rw[z,h] at ha;cases ha
     rw[aM n];exact e.free ha
    generalize L2.upd H1 o (.lst [])=H2 at s2 o2 G2 back2 ⊢
    have s02:=s01.trans s2
    have ho0:H o=none:=s01.free ho
    have hlenN:=λn (hn:n<=15)=>QY (b:=b) (rk:=rk) (m:=m) (d:=d) hk hw n
    refine V0 (n:=15) (λR h=>h) (KS (aU _))
     (λi σ' H'=>Tk A.tabP H1 H'/\∃(zs:List (Addr×List Nat)) (v4 v5 v6 v7:Option V),σ'=[some (.ref s),some (.ref p),some (.ref D),some (.ref o),v4,v5,v6,v7]/\H' o=some (.lst (zs.map λz=>V.ref z.1))/\Paired (λ(c:Nat×List Nat) z=>pA H2 H' b rk m d c.1 c.2 z.1 z.2) (rF b ws rk ks m d i) zs) ?_ ?_ ?_
    ·exact⟨Sm.same s2,[],none,none,none,none,rfl,o2,.nil⟩
    ·rintro i σ' H' hi ⟨g1,zs,v4,v5,v6,v7,rfl,g2,g3⟩
     have g0:Tk A.tabP H H':=(Sm.same s01).trans g1
     have R:=BZ A.tabP Sz Ta
     have eC:rF b ws rk ks m d (i+1)=rF b ws rk ks m d i++(if freeC b m d ((i:Int) - 1)=true then(gD b ws rk m d ks i).map λu=>(i,u) else[]):=by
      unfold rF
      rw[pC,rY,pO,Ah,eX]
     have La':=La.rel R g0
     have L':rO K A.bT A.aV H' b p (m,d):=L.rel R g0
     simp_arith only
     refine ifG (freeC b m d ((i:Int) - 1)) (λR h=> ?_) (λH3 s3 c=> ?_) (λH3 s3 c=> ?_)
     ·simp_arith [↓eY,La'.at_,HO.ins.injEq,T.bT.cl,(vJ T).1,(vJ T).2.1,(vJ T).2.2.1,(vJ T).2.2.2,DX,DY,DW,DV,vN,vM,tY,vL,vK]
      exact RQ L' λH3 s3=>h _ s3
     ·have g03:=g0.trans (Sm.same s3)
      have S3:=S.rel R g03
      simp_arith only[S3.at_,HO.ins.injEq]
      refine⟨CI ..,US S3 (L.rel R g03) (G2' _ (g1.trans (Sm.same s3))) hw hb hrk hi (g03.k har rfl) λH4 q s4 hq hq'=> ?_⟩
      have o4:=(s3.trans s4) _ _ g2
      have g14:=g1.trans (Sm.same (s3.trans s4))
      have g04:=g0.trans (Sm.same (s3.trans s4))
      refine⟨.inl ⟨rfl,_,dX.of o4⟩,?_⟩
      refine bx (xs:=gD b ws rk m d ks i) R (λu=>V.ref (tw u)) (λ_=>true) (λu v H'=>∃q t,v=.ref q/\pA H4 H' b rk m d i u q t) (Ld H4 q) (λR h=> ?_) (λa' H1 c=>by rw[c.1,c.2];exact dX.of hq') ?_ ?_ ?_
      ·simp_arith
       exact h _ _ ⟨rfl,rfl⟩
      ·have:=IZ (b:=b) (rk:=rk) (m:=m) (d:=d) (st:=i) hk
       have:=hw.len
       rw[aX]
       omega
      ·rintro _ _ D5 ⟨rfl,rfl⟩ hD5 j u H5 hu k5 acc Nx hacc hlt ad
       have g05:=g04.trans k5
       have S5:=S.rel R g05
       obtain⟨u1,u2⟩:=ZC hk (aY hu)
       simp_arith [S5.at_,HO.ins.injEq]
       refine⟨CH ..,Gs (wd:=u) S5 (L.rel R g05) (.inl (.inl (S5.tr.tup u u1))) hb hrk (by omega) hd (hw.each u u1).2.2 (g05.tab tb) λH6 q6 t6 k6 r6=> ?_⟩
       exact ad.add rfl hacc hlt R k6 λH7 b7=>⟨q6,t6,rfl,(r6.bt hacc b7).back λa ha=>k5.free ha⟩
      ·rintro _ H4 D5 H5 ys ⟨rfl,rfl⟩ hD5 k5 hy hp
       rw[tZ] at hp
       obtain⟨zs2,rfl,hp2⟩:=Io (S:=λ(u:List Nat) (q:Addr) (t:List Nat)=>pA H4 H5 b rk m d i u q t) hp
       have o5:=k5.k o4 rfl
       have hlen:=hlenN (i+1) (by omega)
       rw[eC,c,if_pos rfl,bZ,aA] at hlen
       have l1:=Paired.length g3
       have l2:=Paired.length hp2
       have o2n:H2 o≠none:=by rw[o2];intro z;cases z
       refine⟨o,D5,_,_,rfl,rfl,o5,hy,?_,?_,zs++zs2,by rw[aK,cC],?_⟩
       ·rw[aA,aA,aX]
        have:(i+1) * 4096<=15 * 4096:=Zm _ (by omega)
        omega
       ·exact(g14.trans k5).put ho o5
       ·rw[eC,c,if_pos rfl]
        have bo:Bt o H5 (L2.upd H5 o (.lst ((zs.map λz=>V.ref z.1)++zs2.map λz=>V.ref z.1))):=λc oo h n _=>by rw[aM n];exact h
        refine LG (Paired.mapP g3 λc z h=>((h.rel cS (s3.trans s4)).rel R k5).bt o2 bo) (LF (λu=>(i,u)) (Paired.mapP hp2 λu z h=>(h.back (back2 g14 o4)).bt o2 bo))
     ·refine⟨g1.trans (Sm.same s3),zs,_,_,_,_,rfl,s3 _ _ g2,?_⟩
      rw[eC,c,if_neg (by simp),eX]
      exact Paired.mapP g3 λc z h=>h.rel cS s3
    ·rintro σ' H' ⟨g1,zs,v4,v5,v6,v7,rfl,g2,g3⟩
     simp_arith
     exact k _ o zs ((Sm.same s01).trans g1) ho0 g2 (Paired.mapP g3 λc z h=>h.back λa ha=>s02.free ha)
end
theorem F4 (dw ar tr al:Addr):(Zg dw ar tr al).lookup ("ranks_along":Str)=none:=rfl
abbrev wW:=(Int×Int)×(Nat×List Nat)
def YB (b:List Nat)(ws:List (List Nat))(rk:List Nat)(ks:List Nat->List Nat)(n:Nat):List wW:=(qO.take n).flatMap λmd=>(rF b ws rk ks md.1 md.2 15).map λc=>(md,c)
def vW (b:List Nat)(ws:List (List Nat))(rk:List Nat)(ks:List Nat->List Nat):List wW:=YB b ws rk ks 30
def wW.x (c:wW):Int:=(bB c.1.1 c.1.2 c.2.1).1
def wW.y (c:wW):Int:=(bB c.1.1 c.1.2 c.2.1).2
def VZ (b:List Nat)(c:wW)(t:List Nat):List Int×List Int:=Pd b c.1.1 c.1.2 c.2.1 t
def YK (b rk:List Nat)(c:wW)(t:List Nat):Prop:=t.length=c.2.2.length/\EK b c.1.2 (dB c.x c.y c.1.2 c.2.2.length) c.2.2 rk t
def Ze (b rk:List Nat)(cs:List wW)(c:wW)(t:List Nat):Prop:=c∈cs/\YK b rk c t/\∀c'∈cs,∃t',YK b rk c' t'/\zM (VZ b c' t') (VZ b c t)=false
abbrev r8 (H0 H:Hp)(b rk:List Nat)(c:wW)(z:Addr×List Nat):Prop:=pA H0 H b rk c.1.1 c.1.2 c.2.1 c.2.2 z.1 z.2
theorem Hx {H0 H:Hp}{b rk:List Nat}:∀{cs:List wW} {zs:List (Addr×List Nat)},Paired (r8 H0 H b rk) cs zs->zC H (zs.map λz=>z.1) ((cs.zip zs).map λp=>VZ b p.1 p.2.2)
 | _,_,.nil=>.nil
 | _,_,.cons (a:=c) (b:=z) r t=>.cons (by
   obtain⟨tl,_,_,h3,h4,_⟩:=r
   refine⟨tl,h3,?_⟩
   rw[h4]
   unfold VZ Pd cT
   rw[bR]
   rfl) (Hx t)
theorem WI {α β:Type}{F:α->β->Prop}:∀{a:List α} {b:List β},Paired F a b->(∀p∈a.zip b,F p.1 p.2)/\∀x∈a,∃y,(x,y)∈a.zip b
 | _,_,.nil=>⟨λp h=>by simp at h,λx h=>by simp at h⟩
 | _,_,.cons r t=>by
  obtain⟨h1,h2⟩:=WI t
  refine⟨λp h=> ?_,λx h=> ?_⟩
  ·rw[dH] at h
   rcases bN.mp h with rfl | h
   ·exact r
   ·exact h1 p h
  ·rw[dH]
   rcases bN.mp h with rfl | h
   ·exact⟨_,aT ..⟩
   ·obtain⟨y,hy⟩:=h2 x h
    exact⟨y,aN _ hy⟩
theorem Py {md:Int×Int}(h:md∈qO):(0<=md.1/\md.1 < 15)/\(md.2=0\/md.2=1):=by
 unfold qO at h
 rcases cW.mp h with h | h
 ·obtain⟨i,hi,rfl⟩:=bE.mp h
  have:=bM.mp hi
  exact⟨⟨by simp,by simp;omega⟩,.inl rfl⟩
 ·obtain⟨i,hi,rfl⟩:=bE.mp h
  have:=bM.mp hi
  exact⟨⟨by simp,by simp;omega⟩,.inr rfl⟩
theorem Co {b:List Nat}{ws:List (List Nat)}{rk:List Nat}{ks:List Nat->List Nat}(hk:wV ws ks)(hw:TY ws):∀l:List (Int×Int),(l.flatMap λmd=>(rF b ws rk ks md.1 md.2 15).map λc=>(md,c)).length<=l.length * 61440
 | []=>aU _
 | md::l=>by
  have:=Co (b:=b) (rk:=rk) hk hw l
  have h:=QY (b:=b) (rk:=rk) (m:=md.1) (d:=md.2) hk hw 15
  rw[pO,bZ,aA,cM]
  omega
section
variable {P:bS}{w:cY}{K:PySem.W.Frag}{mg:Str->Option aC}{A:Ad}{F:Fd}
theorem oQ:bV ["squares","words","rack","search","ranks","line","best"] ["squares","words","rack"] (defScope JL):=⟨rfl,rfl,rfl,by decide+kernel,rfl,by decide+kernel,by decide+kernel⟩
def VH (K:PySem.W.Frag)(C PT:Addr):Sp:=λvs H Q _=>∃(a dw ar:Addr) (ws:List (List Nat)) (b rk:List Nat),vs=[.ref a,.ref dw,.ref ar]/\dX K H a (pV b)/\BM b/\H dw=some (.dT (mJ ws))/\TY ws/\rk.length<=7/\H ar=some (.lst (cT rk))/\RB H PT/\
 (∀ks H',wV ws ks->vW b ws rk ks=[]->Tk PT H H'->Q .non H')/\
 ∀ks H' p dl aw c t,wV ws ks->Tk PT H H'->Ze b rk (vW b ws rk ks) c t->H p=none->H' p=some (.ins C dl (GS c.x c.y c.1.2 aw ar))->H' aw=some (.lst (cT t))->Q (.ref p) H'
theorem WQ (T:kR K mg A F):Ok P w K mg 10 A.mU F.mU ["squares","words","rack"] (VH K A.aW A.tabP):=λbase bb=>by
 refine T.mU.F.ok oQ (λvs H Q E h=> ?_) (λcdv Ar outer s H vs Q E hr h=> ?_)
 ·obtain⟨a,dw,ar,ws,b,rk,rfl,_⟩:=h
  rfl
 ·obtain⟨a,dw,ar,ws,b,rk,rfl,ha,hb,hd,hw,hrk,har,tb,k1,k2⟩:=h
  refine⟨_,(aO (dJ (i:=3) oQ.nd rfl (cB rfl) (y9 T.Sr T.bX T.lM (WS T base bb) hr (aB (pv 1) (aB (pv 2) aL)))) (aO (dJ (i:=4) oQ.nd rfl (cB rfl) (gJ aL)) (aO (tW eP rfl (iY (oF T.rH (Em T base bb) hr (aB (pv 0) aL))) (dG (i:=5) oQ.nd rfl (cB rfl)) (aS (sJ (JU PySem.F.plainAttrs_list PySem.F.slot_list_extend PySem.F.type_list_extend HW (pv 4) (aB (IL (pv 3) T.bX T.fY (EG T base bb) hr (aB (pv 5) aL)) aL))))) (aO (gC (eB (Mn hr.units) (pv 4) (gJ aL) (eZ _)) (aS (bU Ee)) dN) (aO (dJ (i:=6) oQ.nd rfl (cB rfl) (eQ (m6 rfl (U8 hr)) (by rfl) T.A1 boot_min (aB (pv 4) aL))) (aS (bU (y9 T.Br T.aW T.kJ (GJ T base bb) hr (aB (uM XF (pv 6) dS (λ_ _=>rfl)) (aB (uM XF (pv 6) dS (λ_ _=>rfl)) (aB (uM XF (pv 6) dS (λ_ _=>rfl)) (aB (uM XF (pv 6) dS (λ_ _=>rfl)) (aB (pv 2) aL))))))))))))),?_⟩
  simp_arith [↓AQ]
  intro x dx nx nd ne
  refine Lj hd (dX.of har) (λu hu c hc=>by have:=((hw.each u hu).2.2 c hc).2;omega) nx nd ne λH1 al f ks tw s1 S1=> ?_
  have hk:=S1.ks
  have R:=BZ A.tabP Sz Ta
  simp_arith only[↓rQ]
  refine⟨cA _,λo ho=> ?_⟩
  have s2:aZ H1 (L2.upd H1 o (.lst [])):=aZ.upd ho
  have o2:(L2.upd H1 o (.lst [])) o=some (.lst []):=aK
  have back2:∀{H4:Hp} {xs:List V},Tk A.tabP H1 H4->H4 o=some (.lst xs)->∀a,H4 a=none->(L2.upd H1 o (.lst [])) a=none:=λ{H4 xs} e h a ha=>by
   have n:a≠o:=λz=>by rw[z,h] at ha;cases ha
   rw[aM n];exact e.free ha
  generalize L2.upd H1 o (.lst [])=H2 at s2 o2 back2 ⊢
  refine z7 (α:=Addr×(Int×Int)) (λz=>V.ref z.1) (λq H3 zs=>aZ H2 H3/\H2 q=none/\H3 q=some (.lst (zs.map λz=>V.ref z.1))/\(∀z∈zs,tP K H2 A.bT A.aV H3 b z.1 z.2)/\zs.map (λz=>z.2)=qO) (λR h=> ?_)
   (λq zs i σ' H'=>Tk A.tabP H1 H'/\H2 q=none/\H' q=some (.lst (zs.map λz=>V.ref z.1))/\(∀z∈zs,tP K H2 A.bT A.aV H' b z.1 z.2)/\zs.map (λz=>z.2)=qO/\∃(ys:List (Addr×List Nat)) (v5 v6:Option V),σ'=[some (.ref a),some (.ref dw),some (.ref ar),some (.ref x),some (.ref o),v5,v6]/\H' o=some (.lst (ys.map λz=>V.ref z.1))/\Paired (r8 H2 H' b rk) (YB b ws rk ks i) ys) ?_ ?_ ?_ ?_
  ·simp_arith
   exact ZG ((s1.trans s2).seq ha) hb λH3 q zs s3 hq hq' hz he=>h _ _ zs ⟨s3,hq,hq',hz,he⟩
  ·rintro q H3 zs ⟨s3,hq,hq',hz,he⟩
   exact⟨Sm.same (s2.trans s3),hq,hq',hz,he,[],none,none,rfl,s3 _ _ o2,.nil⟩
  ·rintro q zs i σ' H' ⟨_,_,g,_⟩
   exact dX.of g
  ·rintro q zs i z σ' H' hzi ⟨g1,hq,g2,g3,g4,ys,v5,v6,rfl,g5,g6⟩
   have hm:=aY hzi
   have hmd:z.2∈qO:=by rw[<-g4];exact bE.mpr ⟨z,hm,rfl⟩
   have g0:Tk A.tabP H H':=(Sm.same s1).trans g1
   have S':=S1.rel R g1
   simp_arith [S'.at_,HO.ins.injEq]
   refine⟨.inl ⟨rfl,_,dX.of g5⟩,F4 ..,TK (m:=z.2.1) (d:=z.2.2) S' (g3 z hm).p hw hb hrk (Py hmd).2 (g0.k har rfl) (g0.tab tb) λH4 q4 zs4 t4 hq4 hq4' hp4=> ?_⟩
   have o4:=t4.k g5 rfl
   have eC:YB b ws rk ks (i+1)=YB b ws rk ks i++(rF b ws rk ks z.2.1 z.2.2 15).map λc=>(z.2,c):=by
    unfold YB
    have:qO[i]? =some z.2:=by rw[<-g4,aP,hzi];rfl
    rw[jV,this,rY]
    simp
   have hlen:=Co (b:=b) (rk:=rk) hk hw (qO.take (i+1))
   have hl30:(qO.take (i+1)).length<=30:=by rw[iH];exact Nat.min_le_right _ _
   have hlen:(YB b ws rk ks (i+1)).length<=30 * 61440:=cV hlen (Zm _ hl30)
   rw[eC,bZ,aA] at hlen
   have l1:=Paired.length g6
   have l2:=Paired.length hp4
   have bo:Bt o H4 (L2.upd H4 o (.lst ((ys.map λz=>V.ref z.1)++zs4.map λz=>V.ref z.1))):=λc oo h n _=>by rw[aM n];exact h
   have hqo:q≠o:=λe=>by rw[e,o2] at hq;cases hq
   refine⟨o,q4,_,_,rfl,rfl,o4,hq4',?_,(g1.trans t4).put ho o4,hq,by rw[aM hqo];exact t4.k g2 rfl,λz hz=>((g3 z hz).rel R t4).bt o2 bo,g4,ys++zs4,by rw[aK,cC],?_⟩
   ·rw[aA,aA,aX]
    omega
   ·rw[eC]
    exact LG (Paired.mapP g6 λc z h=>(h.rel R t4).bt o2 bo) (LF (λc=>(z.2,c)) (Paired.mapP hp4 λu y h=>(h.back (back2 g1 g5)).bt o2 bo))
  ·rintro q zs σ' H' ⟨g1,hq,g2,g3,g4,ys,v5,v6,rfl,g5,g6⟩
   have hzl:zs.length=30:=by
    have:=congrArg iI g4
    rw[aA] at this
    rw[this];rfl
   rw[hzl] at g6
   have g6:Paired (r8 H2 H' b rk) (vW b ws rk ks) ys:=g6
   have g0:Tk A.tabP H H':=(Sm.same s1).trans g1
   simp_arith [↓rQ]
   refine⟨cA _,λe0 he0=> ?_⟩
   have s3:aZ H' (L2.upd H' e0 (.lst [])):=aZ.upd he0
   have n3:(L2.upd H' e0 (.lst [])) e0=some (.lst []):=aK
   generalize L2.upd H' e0 (.lst [])=H3 at s3 n3 ⊢
   have g03:=g0.trans (Sm.same s3)
   have o3:=s3 _ _ g5
   have p3:Paired (r8 H2 H3 b rk) (vW b ws rk ks) ys:=Paired.mapP g6 λc z h=>h.rel cS s3
   have pz:=WI p3
   refine⟨o,e0,_,rfl,rfl,dX.of o3,n3,Kh ?_⟩
   by_cases hy:ys=[]
   ·rw[if_pos (by rw[hy];rfl)]
    refine k1 ks _ hk ?_ g03
    have:=Paired.length p3
    rw[hy] at this
    exact xU this
   ·rw[if_neg (by cases h:ys with | nil=>exact absurd h hy | cons z l=>simp)]
    have er:(ys.map λz=>V.ref z.1)=(ys.map λz=>z.1).map V.ref:=by rw[bR];rfl
    refine⟨o,ys.map (λz=>z.1),_,rfl,by rw[<-er];exact dX.of o3,Hx p3,by simpa using hy,λr hr=> ?_,λn tq r hn hr hmin=> ?_⟩
    ·obtain⟨p,_,rfl⟩:=bE.mp hr
     rfl
    ·rw[aP] at hn hr
     obtain⟨z,hz,rfl⟩:=cK.mp hn
     obtain⟨cz,hcz,rfl⟩:=cK.mp hr
     obtain⟨c,z'⟩:=cz
     have hzz:=mB.mp hcz
     have ez:z'=z:=cX (hzz.2.symm.trans hz)
     subst ez
     have hcm:=aY hcz
     obtain⟨tl,r1,r2,r3,r4,r5,r6⟩:=pz.1 _ hcm
     have r3':H3 z'.1=some (.tup [.int (-jY b c.1.2 (dB (bB c.1.1 c.1.2 c.2.1).1 (bB c.1.1 c.1.2 c.2.1).2 c.1.2 z'.2.length) z'.2),.int c.1.2,.int c.y,.int c.x,.ref tl]):=r3
     simp_arith [↓AQ]
     have q3:KH K H3 z'.1 _:=.inl (.inl r3')
     refine⟨_,_,_,_,rfl,rfl,q3,uO (j:=3) rfl rfl,_,_,_,_,rfl,rfl,q3,uO (j:=2) rfl rfl,_,_,_,_,rfl,rfl,q3,uO (j:=1) rfl rfl,_,_,_,_,rfl,rfl,q3,uO (j:=4) rfl rfl,λp dl hp hdl hne=> ?_⟩
     refine⟨dl,tl,ar,c.x,rfl,c.y,rfl,c.1.2,rfl,rfl,rfl,aK,λH6 h6 k6=> ?_⟩
     have s6:aZ H3 H6:=aZ.made hp hdl k6
     refine k2 ks H6 p dl tl c z'.2 hk (g03.trans (Sm.same s6)) ⟨(KL hcm).1,⟨r5,r6⟩,λc' hc'=> ?_⟩ (g03.free hp) h6 (s6 _ _ r4)
     obtain⟨y',hy'⟩:=pz.2 c' hc'
     obtain⟨_,_,_,_,_,q5,q6⟩:=pz.1 _ hy'
     exact⟨y'.2,⟨q5,q6⟩,hmin _ (bE.mpr ⟨_,hy',rfl⟩)⟩
end
def yE (c:Nat):Prop:=65<=c/\c<=90
def Gf:List Nat->List Nat->Nat
 | _,[]=>0
 | r,c::L=>if r.contains c=true then Gf (r.erase c) L else Gf r L+1
theorem jU (r:List Nat)(c:Nat)(L:List Nat):Gf r (c::L)=if r.contains c=true then Gf (r.erase c) L else Gf r L+1:=rfl
theorem IB {r:List Nat}{a c:Nat}(h:a≠c):(r.erase c).contains a=r.contains a:=by
 rw[cZ,aR,aR,xS h]
theorem Fn {r:List Nat}{a c:Nat}(h:(r.erase c).contains a=true):r.contains a=true:=by
 rw[aR] at h ⊢
 exact List.mem_of_mem_erase h
theorem QI (c:Nat):∀(L r:List Nat),Gf (r.erase c) L<=Gf r L+1
 | [],r=>cA _
 | a::L,r=>by
  rw[jU,jU]
  by_cases h:(r.erase c).contains a=true
  ·rw[if_pos h,if_pos (Fn h),Gc]
   exact QI c L (r.erase a)
  ·rw[if_neg h]
   by_cases h2:r.contains a=true
   ·rw[if_pos h2]
    have e:a=c:=by
     apply lF
     intro n
     exact h (by rw[IB n];exact h2)
    rw[e]
    omega
   ·rw[if_neg h2]
    have:=QI c L r
    omega
theorem Mt:∀(L r:List Nat),(∀c∈L,c≠63)->Gf (r.erase 63) L=Gf r L
 | [],r,_=>rfl
 | a::L,r,h=>by
  have ha:=h a (aT ..)
  have hl:=λc hc=>h c (aN _ hc)
  rw[jU,jU,IB ha,Gc,Mt L _ hl,Mt L _ hl]
theorem Xa {L L':List Nat}(h:L.Perm L'):∀r,Gf r L=Gf r L':=by
 induction h with
 | nil=>intro r;rfl
 | cons a _ ih=>intro r;rw[jU,jU,ih,ih]
 | trans _ _ ih1 ih2=>intro r;rw[ih1,ih2]
 | swap a b L=>
  intro r
  by_cases e:a=b
  ·rw[e]
  ·have e':b≠a:=λz=>e z.symm
   rw[jU,jU,jU,jU,jU,jU,IB e,IB e',Gc]
   by_cases h1:r.contains a=true <;> by_cases h2:r.contains b=true <;> simp only[h1,h2,if_true,if_false,eO]
def yN:List Nat->List Nat->Option (List Nat)
 | r,[]=>some r
 | r,c::L=>(qX r c).bind λr'=>yN r' L
theorem BS:∀(L r:List Nat),(∀c∈L,yE c)->((yN r L).isSome=true↔Gf r L<=r.count 63)
 | [],r,_=>by simp[yN,Gf]
 | c::L,r,h=>by
  have hc:=h c (aT ..)
  have hl:=λx hx=>h x (aN _ hx)
  have h63:c≠63:=by unfold yE at hc;omega
  have hl63:∀x∈L,x≠63:=λx hx=>by have:=hl x hx;unfold yE at this;omega
  rw[jU]
  unfold yN qX
  by_cases h1:r.contains c=true
  ·rw[if_pos h1,if_pos h1,YQ,BS L _ hl,lD (fE h63)]
  ·rw[if_neg h1,if_neg h1]
   by_cases h2:r.contains 63=true
   ·have hp:0 < r.count 63:=iA.mpr (aR.mp h2)
    rw[if_pos h2,YQ,BS L _ hl,Mt L r hl63,lQ]
    omega
   ·have hp:r.count 63=0:=BK.mpr λz=>h2 (aR.mpr z)
    rw[if_neg h2,hp]
    simp
theorem HP:∀(L r r':List Nat),yN r L=some r'->r'.length+L.length=r.length
 | [],r,r',h=>by cases h;rfl
 | c::L,r,r',h=>by
  unfold yN at h
  obtain⟨r1,h1,h2⟩:=Kw.mp h
  have e1:=Ao h1
  have e2:=HP L r1 r' h2
  rw[cM]
  omega
theorem KR (c:Nat):∀(L r:List Nat),yN r (L++[c])=(yN r L).bind λr'=>qX r' c
 | [],r=>by
  show(qX r c).bind (λr'=>some r')=_
  unfold yN
  rw[YQ]
  cases qX r c <;> rfl
 | a::L,r=>by
  show(qX r a).bind (λr'=>yN r' (L++[c]))=((qX r a).bind λr'=>yN r' L).bind _
  cases qX r a with
  | none=>rfl
  | some r1=>exact KR c L r1
theorem AB:∀(l r:List Nat),fG r l=true↔∀c,(l.map eT).count c<=r.count c
 | [],r=>by simp[fG]
 | x::l,r=>by
  unfold fG
  rw[bH,AB l,aR,aJ]
  constructor
  ·rintro⟨h1,h2⟩ c
   have:=h2 c
   rw[eV]
   by_cases e:eT x=c
   ·subst e
    rw[lQ] at this
    have:=iA.mpr h1
    simp;omega
   ·rw[lD (λz=>e z.symm)] at this
    simp[e];exact this
  ·intro h
   have h0:=h (eT x)
   rw[OX] at h0
   refine⟨iA.mp (by omega),λc=> ?_⟩
   have h1:=h c
   rw[eV] at h1
   by_cases e:eT x=c
   ·subst e
    rw[lQ]
    simp at h1;omega
   ·rw[lD (λz=>e z.symm)]
    simp[e] at h1;exact h1
abbrev TB (l L:List Nat):Prop:=Paired (λx c=>x=c\/x=c+32) l L
abbrev DJ (x:Nat):Bool:=decide (97<=x)
theorem BQ:∀{l L:List Nat},TB l L->(∀c∈L,yE c)->(l.map eT).count 63=(l.filter DJ).length/\∀c,yE c->(l.map eT).count c=l.count c
 | _,_,.nil,_=>⟨rfl,λc _=>rfl⟩
 | _,_,.cons (a:=x) (b:=a) (l₁:=l) (l₂:=L) r t,h=>by
  have ha:=h a (aT ..)
  obtain⟨h1,h2⟩:=BQ t λc hc=>h c (aN _ hc)
  unfold yE at ha
  rw[aJ,eV,h1]
  have et:eT x=if 97<=x then 63 else x:=rfl
  refine⟨?_,λc hc=> ?_⟩
  ·by_cases e:97<=x
   ·rw[iJ (by simpa[DJ] using e),cM,et,if_pos e];rfl
   ·rw[kI (by simpa[DJ] using e),et,if_neg e]
    have:¬x=63:=by rcases r with r | r <;> omega
    simp[this]
  ·rw[eV,eV,h2 c hc,et]
   unfold yE at hc
   by_cases e:97<=x
   ·have n1:¬63=c:=by omega
    have n2:¬x=c:=by omega
    simp[e,n1,n2]
   ·simp[e]
theorem QH:∀{l L:List Nat},TB l L->(∀c∈L,yE c)->∀r:List Nat,(∀c,yE c->l.count c<=r.count c)->Gf r L<=(l.filter DJ).length
 | _,_,.nil,_,r,_=>cA _
 | _,_,.cons (a:=x) (b:=c) (l₁:=l) (l₂:=L) rel t,h,r,hr=>by
  have hc:=h c (aT ..)
  have hl:=λa ha=>h a (aN _ ha)
  rw[jU]
  rcases rel with e | e
  ·rw[e] at hr ⊢
   have h0:=hr c hc
   rw[OX] at h0
   have hm:r.contains c=true:=aR.mpr (iA.mp (by omega))
   rw[if_pos hm,kI (by unfold yE at hc;simp[DJ];omega)]
   refine QH t hl _ λa ha=> ?_
   have h1:=hr a ha
   rw[eV] at h1
   by_cases e:c=a
   ·subst e
    rw[lQ]
    simp at h1;omega
   ·rw[lD (λz=>e z.symm)]
    simp[e] at h1;exact h1
  ·rw[iJ (by unfold yE at hc;simp[DJ];omega),cM]
   have ih:=QH t hl r λa ha=>by
    have h1:=hr a ha
    rw[eV] at h1
    split at h1 <;> omega
   split
   ·have:=QI c L r
    omega
   ·omega
theorem UY {l L:List Nat}(h:TB l L)(hc:∀c∈L,yE c){r:List Nat}(ht:fG r l=true):(yN r L).isSome=true:=by
 rw[AB] at ht
 obtain⟨h1,h2⟩:=BQ h hc
 rw[BS L r hc]
 have:=QH h hc r λc hc'=>by rw[<-h2 c hc'];exact ht c
 have:=ht 63
 omega
def FF:List Nat->List Nat->List Nat
 | _,[]=>[]
 | r,c::L=>if r.contains c=true then c::FF (r.erase c) L else(c+32)::FF r L
theorem BR (r:List Nat)(c:Nat)(L:List Nat):FF r (c::L)=if r.contains c=true then c::FF (r.erase c) L else(c+32)::FF r L:=rfl
theorem FD:∀(L r:List Nat),TB (FF r L) L
 | [],r=>.nil
 | c::L,r=>by
  rw[BR]
  split
  ·exact .cons (.inl rfl) (FD L _)
  ·exact .cons (.inr rfl) (FD L _)
theorem FE:∀(L r:List Nat),(∀c∈L,yE c)->((FF r L).filter DJ).length=Gf r L/\∀c,yE c->(FF r L).count c<=r.count c
 | [],r,_=>⟨rfl,λc _=>cA _⟩
 | c::L,r,h=>by
  have hc:=h c (aT ..)
  have hl:=λa ha=>h a (aN _ ha)
  rw[BR,jU]
  split
  ·rename_i hm
   obtain⟨h1,h2⟩:=FE L (r.erase c) hl
   rw[kI (by unfold yE at hc;simp[DJ];omega),h1]
   refine⟨rfl,λa ha=> ?_⟩
   have:=h2 a ha
   rw[eV]
   by_cases e:c=a
   ·subst e
    rw[lQ] at this
    have:=iA.mpr (aR.mp hm)
    simp;omega
   ·rw[lD (λz=>e z.symm)] at this
    simp[e];exact this
  ·obtain⟨h1,h2⟩:=FE L r hl
   rw[iJ (by unfold yE at hc;simp[DJ];omega),cM,h1]
   refine⟨rfl,λa ha=> ?_⟩
   have:=h2 a ha
   have n:¬c+32=a:=by unfold yE at hc ha;omega
   rw[eV]
   simp[n];exact this
theorem RR:∀{l L:List Nat},TB l L->(∀c∈L,yE c)->∀c,c≠63->¬yE c->(l.map eT).count c=0
 | _,_,.nil,_,_,_,_=>rfl
 | _,_,.cons (a:=x) (b:=a) r t,h,c,n,hc=>by
  have ha:=h a (aT ..)
  rw[aJ,eV,RR t (λc hc=>h c (aN _ hc)) c n hc]
  have et:eT x=if 97<=x then 63 else x:=rfl
  have:¬eT x=c:=λz=>by
   rw[et] at z
   split at z
   ·exact n z.symm
   ·rcases r with e | e
    ·rw[<-z,e] at hc;exact hc ha
    ·unfold yE at ha;omega
  simp[this]
theorem UX {L l:List Nat}{r:List Nat}(hc:∀c∈L,yE c)(hp:l.Perm (FF r L))(h:Gf r L<=r.count 63):fG r l=true:=by
 rw[AB]
 intro c
 rw[(hp.map eT).count_eq]
 have sp:=FD L r
 obtain⟨h1,h2⟩:=BQ sp hc
 obtain⟨k1,k2⟩:=FE L r hc
 by_cases e:c=63
 ·rw[e,h1,k1];exact h
 ·by_cases e2:yE c
  ·rw[h2 c e2];exact k2 c e2
  ·rw[RR sp hc c e e2];exact cA _
theorem rE {l:List Nat}{i a:Nat}(h:i < l.length):(l.set i a).getD i 0=a:=by
 rw[aF,uU h];rfl
theorem kY {l:List Nat}{i j a:Nat}(h:i≠j):(l.set i a).getD j 0=l.getD j 0:=by
 rw[aF,mM h, <-aF]
theorem XQ {l m:List Nat}(h:l.length=m.length)(e:∀i,i < l.length->l.getD i 0=m.getD i 0):l=m:=by
 apply Ai h
 intro i h1 h2
 have:=e i h1
 rw[aF,aE h1,aF,aE h2] at this
 exact this
theorem MO (f:fU×Nat->Int):∀(cs:List fU) (w:List Nat) (i c:Nat),i < cs.length->cs.length=w.length->((cs.zip (w.set i c)).map f).sum=((cs.zip w).map f).sum+f (cs.getD i (0,0),c) - f (cs.getD i (0,0),w.getD i 0)
 | [],_,_,_,h,_=>by simp at h
 | _::_,[],_,_,_,h=>by simp at h
 | a::cs,x::w,0,c,_,_=>by
  rw[List.set_cons_zero,dH,dH,aJ,aJ,dW,dW]
  show _=_+f (a,c) - f (a,x)
  omega
 | a::cs,x::w,i+1,c,h,hl=>by
  have:=MO f cs w i c (by simpa using h) (by simpa using hl)
  rw[List.set_cons_succ,dH,dH,aJ,aJ,dW,dW,this]
  show _=_+f (cs.getD i (0,0),c) - f (cs.getD i (0,0),w.getD i 0)
  omega
theorem Tu {b:List Nat}{d:Int}{cs:List fU}{w:List Nat}{i c:Nat}(hl:cs.length=w.length)(hi:i < cs.length)(he:lR b (cs.getD i (0,0))=true):jY b d cs (w.set i c)=jY b d cs w+(((cH c:Nat):Int) - ((cH (w.getD i 0):Nat):Int)) * Vm b d (oZ b cs) (cs.getD i (0,0)):=by
 unfold jY
 rw[MO _ cs w i c hi hl,MO _ cs w i c hi hl]
 generalize ((cs.zip w).map (Uv b)).sum=S1
 generalize ((cs.zip w).map (Uy b d)).sum=S2
 generalize oZ b cs=F
 unfold Uv Uy Vm
 dsimp only
 rw[if_pos he,if_pos he,if_pos he,if_pos he]
 generalize ((cH c:Nat):Int)=v1
 generalize ((cH (w.getD i 0):Nat):Int)=v0
 generalize Xi (cs.getD i (0,0))=lf
 split
 ·generalize Gd (cs.getD i (0,0))=wf
  generalize dA (vD b (cs.getD i (0,0)).1 (cs.getD i (0,0)).2 d)+dA (zI b (cs.getD i (0,0)).1 (cs.getD i (0,0)).2 d)=A
  simp only[Int.add_mul,PF,Int.mul_add,xX]
  omega
 ·simp only[Int.add_mul,PF,Int.mul_add,xX]
  omega
theorem Rt {c:Nat}(h:yE c):1<=cH c/\cH (c+32)=0:=by
 have key:∀c,c < 26->1<=cH (c+65)/\cH (c+65+32)=0:=by decide
 obtain⟨h1,h2⟩:=h
 have:=key (c - 65) (by omega)
 rw[show c - 65+65=c by omega] at this
 exact this
theorem Ew (c:fU):1<=Xi c:=by have:=Xh c.1 c.2;unfold Xi;omega
theorem Le (c:fU):1<=Gd c:=by have:=Oo c.1 c.2;unfold Gd;omega
theorem XO (b:List Nat):∀(cs:List fU) (f:Int),1<=f->1<=cs.foldl (λf c=>if lR b c=true then f * Gd c else f) f
 | [],f,h=>h
 | c::cs,f,h=>by
  rw[mD]
  apply XO b cs
  split
  ·have:=Kz h (Le c) (by decide) (by omega)
   simpa using this
  ·exact h
theorem B8 (b:List Nat)(d:Int)(cs:List fU)(c:fU):1<=Vm b d (oZ b cs) c:=by
 unfold Vm
 have h1:=XO b cs 1 (by decide)
 have h2:=Le c
 have h3:1<=oZ b cs+(if tS b c.1 c.2 d=true then Gd c else 0):=by
  unfold oZ
  split <;> omega
 have:=Kz (Ew c) h3 (by decide) (by have:=Ew c;omega)
 simpa using this
theorem KC:∀(a b:List Nat) (i:Nat),a.length=b.length->i < a.length->(∀k,k < i->a.getD k 0=b.getD k 0)->a.getD i 0 < b.getD i 0->qP a b=true
 | [],_,_,_,h,_,_=>by simp at h
 | _::_,[],_,h,_,_,_=>by simp at h
 | x::a,y::b,0,_,_,_,h=>by
  have h:x < y:=h
  simp[qP,h]
 | x::a,y::b,i+1,hl,hi,hk,h=>by
  have e:x=y:=hk 0 (by omega)
  have:=KC a b i (by simpa using hl) (by simpa using hi) (λk hk'=>hk (k+1) (by omega)) h
  simp[qP,e,this]
def w6 (cnt:List Nat->Int)(t v:List Nat):Prop:=cnt v < cnt t\/(cnt v=cnt t/\qP t v=true)
theorem Cq {cnt:List Nat->Int}{t v w:List Nat}(h1:w6 cnt t v)(h2:w6 cnt v w):w6 cnt t w:=by
 rcases h1 with h1 | ⟨h1,h1'⟩ <;> rcases h2 with h2 | ⟨h2,h2'⟩
 ·exact .inl (by omega)
 ·exact .inl (by omega)
 ·exact .inl (by omega)
 ·exact .inr ⟨by omega,QM h1' h2'⟩
theorem ZY {ns:List Nat}{v:List Nat}{c:Nat}(h:0 < (ns.map λi=>v.getD i 0).count c):∃j∈ns,v.getD j 0=c:=by
 obtain⟨j,hj,e⟩:=bE.mp (iA.mp h)
 exact⟨j,hj,e⟩
theorem SH {ns v:List Nat}{i a:Nat}(h:i ∉ ns):(ns.map λk=>(v.set i a).getD k 0)=ns.map λk=>v.getD k 0:=
 dD λk hk=>kY λe=>h (by rw[e];exact hk)
theorem wL:∀{ns v:List Nat} {j a:Nat},ns.Nodup->j∈ns->j < v.length->∀c,((ns.map λk=>(v.set j a).getD k 0).count c+if v.getD j 0=c then 1 else 0)=(ns.map λk=>v.getD k 0).count c+if a=c then 1 else 0
 | [],_,_,_,_,h,_,_=>by simp at h
 | i::ns,v,j,a,nd,hj,hl,c=>by
  rw[dU] at nd
  rw[aJ,aJ,eV,eV]
  rcases bN.mp hj with e | hj
  ·subst e
   rw[rE hl,SH nd.1]
   simp only[beq_iff_eq]
   exact Nat.add_right_comm _ _ _
  ·have ne:j≠i:=λe=>nd.1 (by rw[<-e];exact hj)
   rw[kY ne]
   have:=wL nd.2 hj hl (a:=a) c
   omega
theorem PR {cnt:List Nat->Int}{W:Nat->Int}{n:Nat}{NS:List Nat}(hW:∀i∈NS,1<=W i)(hc:∀w i c,w.length=n->i∈NS->cnt (w.set i c)=cnt w+(((cH c:Nat):Int) - ((cH (w.getD i 0):Nat):Int)) * W i):
  ∀(ns left t v:List Nat),(∀i∈ns,i∈NS/\i < n)->ns.Nodup->ns.Pairwise (λi j=>W j < W i\/(W j=W i/\i < j))->t.length=n->v.length=n->(∀i∈ns,yE (t.getD i 0))->(∀i∈ns,v.getD i 0=t.getD i 0\/v.getD i 0=t.getD i 0+32)->(∀i,i ∉ ns->v.getD i 0=t.getD i 0)->(∀c,yE c->(ns.map λi=>v.getD i 0).count c<=left.count c)->
   v=sD left t ns\/w6 cnt (sD left t ns) v
 | [],left,t,v,_,_,_,tl,vl,_,_,h,_=>.inl (XQ (by show v.length=t.length;rw[vl,tl]) λi _=>h i (by simp))
 | i::ns,left,t,v,hin,nd,so,tl,vl,hcap,hv,ho,hcount=>by
  rw[dU] at nd
  rw[oM] at so
  obtain⟨hiN,hin'⟩:=hin i (aT ..)
  have hin2:=λj hj=>hin j (aN _ hj)
  have hci:=hcap i (aT ..)
  have hcap2:=λj hj=>hcap j (aN _ hj)
  have hvi:=hv i (aT ..)
  have hv2:=λj hj=>hv j (aN _ hj)
  have hval:=Rt hci
  rw[qF]
  by_cases hm:left.contains (t.getD i 0)=true
  ·rw[if_pos hm]
   have hpos:0 < left.count (t.getD i 0):=iA.mpr (aR.mp hm)
   have go:∀v':List Nat,v'.length=n->v'.getD i 0=t.getD i 0->(∀j∈ns,v'.getD j 0=t.getD j 0\/v'.getD j 0=t.getD j 0+32)->(∀j,j ∉ i::ns->v'.getD j 0=t.getD j 0)->(∀c,yE c->((i::ns).map λi=>v'.getD i 0).count c<=left.count c)->v'=sD (left.erase (t.getD i 0)) t ns\/w6 cnt (sD (left.erase (t.getD i 0)) t ns) v':=by
    intro v' vl' hvi' hv' ho' hct
    refine PR hW hc ns _ t v' hin2 nd.2 so.2 tl vl' hcap2 hv' (λj hj=> ?_) λc hcc=> ?_
    ·by_cases e:j=i
     ·rw[e,hvi']
     ·exact ho' j (λz=>(bN.mp z).elim e hj)
    ·have h1:=hct c hcc
     rw[aJ,eV,hvi'] at h1
     by_cases e:t.getD i 0=c
     ·rw[if_pos (beq_iff_eq.mpr e)] at h1
      rw[<-e,lQ]
      rw[<-e] at h1
      omega
     ·rw[if_neg (λz=>e (beq_iff_eq.mp z))] at h1
      rw[lD (λz=>e z.symm)]
      exact h1
   rcases hvi with hvi | hvi
   ·exact go v vl hvi hv2 ho hcount
   ·
    have hil:i < v.length:=by omega
    by_cases hex:0 < (ns.map λk=>v.getD k 0).count (t.getD i 0)
    ·obtain⟨j,hj,ej⟩:=ZY hex
     obtain⟨hjN,hjn⟩:=hin2 j hj
     have hij:i≠j:=λe=>nd.1 (by rw[e];exact hj)
     have hjl:j < (v.set i (t.getD i 0)).length:=by rw[dO];omega
     have etj:t.getD j 0=t.getD i 0:=by
      rcases hv2 j hj with e | e
      ·rw[<-e,ej]
      ·have:=hcap2 j hj
       unfold yE at this hci
       omega
     have ev'j:(v.set i (t.getD i 0)).getD j 0=t.getD i 0:=by rw[kY hij,ej]
     have e2:cnt ((v.set i (t.getD i 0)).set j (t.getD i 0+32))=cnt v+((cH (t.getD i 0):Nat):Int) * W i - ((cH (t.getD i 0):Nat):Int) * W j:=by
      rw[hc _ j _ (by rw[dO,vl]) hjN,hc v i _ vl hiN,ev'j,hvi,hval.2]
      simp only[P9,Int.sub_zero,Int.zero_sub,Int.neg_mul]
      omega
     have better:w6 cnt ((v.set i (t.getD i 0)).set j (t.getD i 0+32)) v:=by
      have v1:(1:Int)<=((cH (t.getD i 0):Nat):Int):=by omega
      rcases so.1 j hj with h | ⟨h,hlt⟩
      ·left
       rw[e2]
       have:((cH (t.getD i 0):Nat):Int) * W j < ((cH (t.getD i 0):Nat):Int) * W i:=Int.mul_lt_mul_of_pos_left h (by omega)
       omega
      ·right
       refine⟨by rw[e2,h];omega,KC _ _ i (by rw[dO,dO]) (by rw[dO,dO];omega) (λk hk=> ?_) ?_⟩
       ·rw[kY (by omega),kY (by omega)]
       ·rw[kY (fE hij),rE hil,hvi];omega
     have:=go ((v.set i (t.getD i 0)).set j (t.getD i 0+32)) (by rw[dO,dO,vl]) (by rw[kY (fE hij),rE hil]) (λk hk=> ?_) (λk hk=> ?_) λc hcc=> ?_
     ·rcases this with e | e
      ·rw[<-e];exact .inr better
      ·exact .inr (Cq e better)
     ·by_cases e:k=j
      ·rw[e,rE hjl,etj];exact .inr rfl
      ·rw[kY (fE e),kY (λz=>nd.1 (by rw[z];exact hk))]
       exact hv2 k hk
     ·rw[kY (λz=>hk (aN _ (by rw[<-z];exact hj))),kY (λz=>hk (by rw[<-z];exact aT ..))]
      exact ho k hk
     ·have nd':(i::ns).Nodup:=dU.mpr nd
      have c1:=wL (v:=v) (a:=t.getD i 0) nd' (aT ..) hil c
      have c2:=wL (v:=v.set i (t.getD i 0)) (a:=t.getD i 0+32) nd' (aN _ hj) hjl c
      have c3:=hcount c hcc
      rw[ev'j] at c2
      have n1:¬t.getD i 0+32=c:=by unfold yE at hcc hci;omega
      rw[if_neg n1] at c2
      rw[hvi,if_neg n1] at c1
      omega
    ·have e2:cnt (v.set i (t.getD i 0))=cnt v+((cH (t.getD i 0):Nat):Int) * W i:=by
      rw[hc v i _ vl hiN,hvi,hval.2]
      simp
     have better:w6 cnt (v.set i (t.getD i 0)) v:=by
      left
      rw[e2]
      have v1:(1:Int)<=((cH (t.getD i 0):Nat):Int):=by omega
      have:=Kz v1 (hW i hiN) (by decide) (by omega)
      omega
     have:=go (v.set i (t.getD i 0)) (by rw[dO,vl]) (rE hil) (λk hk=> ?_) (λk hk=> ?_) λc hcc=> ?_
     ·rcases this with e | e
      ·rw[<-e];exact .inr better
      ·exact .inr (Cq e better)
     ·rw[kY (λz=>nd.1 (by rw[z];exact hk))]
      exact hv2 k hk
     ·rw[kY (λz=>hk (by rw[<-z];exact aT ..))]
      exact ho k hk
     ·have nd':(i::ns).Nodup:=dU.mpr nd
      have c1:=wL (v:=v) (a:=t.getD i 0) nd' (aT ..) hil c
      have c3:=hcount c hcc
      have n1:¬t.getD i 0+32=c:=by unfold yE at hcc hci;omega
      rw[hvi,if_neg n1] at c1
      by_cases e:t.getD i 0=c
      ·rw[if_pos e] at c1
       have:((i::ns).map λk=>v.getD k 0).count c=0:=by
        rw[aJ,eV,hvi, <-e]
        rw[<-e] at n1
        rw[if_neg (λz=>n1 (beq_iff_eq.mp z))]
        omega
       rw[<-e] at this c1 ⊢
       omega
      ·rw[if_neg e] at c1;omega
  ·rw[if_neg hm]
   have h0:left.count (t.getD i 0)=0:=BK.mpr λz=>hm (aR.mpr z)
   have evi:v.getD i 0=t.getD i 0+32:=by
    rcases hvi with e | e
    ·have:=hcount _ hci
     rw[aJ,e,OX,h0] at this
     omega
    ·exact e
   have til:i < t.length:=by omega
   refine PR hW hc ns left (t.set i (t.getD i 0+32)) v hin2 nd.2 so.2 (by rw[dO,tl]) vl (λj hj=> ?_) (λj hj=> ?_) (λj hj=> ?_) λc hcc=> ?_
   ·rw[kY (λz=>nd.1 (by rw[z];exact hj))];exact hcap2 j hj
   ·rw[kY (λz=>nd.1 (by rw[z];exact hj))];exact hv2 j hj
   ·by_cases e:j=i
    ·rw[e,rE til,evi]
    ·rw[kY (fE e)]
     exact ho j (λz=>(bN.mp z).elim e hj)
   ·have h1:=hcount c hcc
    rw[aJ,eV] at h1
    split at h1 <;> omega
theorem NI {α:Type}{g:α->Int}{R:α->α->Prop}:∀{l:List α},(∀z,(l.filter λx=>g x==z).Pairwise R)->l.Pairwise λx y=>g x=g y->R x y
 | [],_=>List.Pairwise.nil
 | x::l,h=>by
  refine oM.mpr ⟨λy hy e=> ?_,NI λz=> ?_⟩
  ·have:=h (g x)
   rw[iJ (by simp),oM] at this
   exact this.1 y (bO.mpr ⟨hy,by simp[e]⟩)
  ·exact(h z).sublist (List.Sublist.filter _ (List.sublist_cons_self x l))
abbrev Ys (b:List Nat)(d:Int)(cs:List fU)(i:Nat):Int:=Vm b d (oZ b cs) (cs.getD i (0,0))
theorem Fc {b:List Nat}{d:Int}{cs:List fU}{ns:List Nat}(h:kU b d cs ns):ns.Pairwise λi j=>Ys b d cs j < Ys b d cs i\/(Ys b d cs j=Ys b d cs i/\i < j):=by
 obtain⟨_,h2,h3⟩:=h
 have inc:((JT b cs).map cF).Pairwise (·< ·):=by
  rw[uS]
  exact(De _ Up).imp λ{a b} h=>Int.ofNat_lt.mpr h
 have h4:=NI (R:=λx y:Int=>x < y) (g:=λi=> -Vm b d (oZ b cs) (cs.getD i.toNat (0,0))) (l:=ns.map cF) λz=>by
  rw[h3 z]
  exact inc.filter _
 rw[uS] at h2 h4
 refine(h2.and h4).imp ?_
 rintro i j ⟨e1,e2⟩
 have e1: -Ys b d cs i<= -Ys b d cs j:=e1
 have e2: -Ys b d cs i= -Ys b d cs j->(i:Int) < (j:Int):=e2
 by_cases e:Ys b d cs j=Ys b d cs i
 ·exact .inr ⟨e,by have:=e2 (by rw[e]);omega⟩
 ·exact .inl (by omega)
theorem tR:∀(ns left t:List Nat) (i:Nat),i ∉ ns->(sD left t ns).getD i 0=t.getD i 0
 | [],_,_,_,_=>rfl
 | j::ns,left,t,i,h=>by
  have hj:j≠i:=λe=>h (by rw[e];exact aT ..)
  have hn:i ∉ ns:=λz=>h (aN _ z)
  rw[qF]
  split
  ·exact tR ns _ t i hn
  ·rw[tR ns _ _ i hn,kY hj]
theorem PU:∀(ns left t:List Nat),ns.Nodup->(∀i∈ns,i < t.length)->(ns.map λi=>(sD left t ns).getD i 0)=FF left (ns.map λi=>t.getD i 0)
 | [],_,_,_,_=>rfl
 | j::ns,left,t,nd,hl=>by
  rw[dU] at nd
  have hl2:=λi hi=>hl i (aN _ hi)
  rw[qF,aJ,aJ,BR]
  split
  ·rw[tR ns _ t j nd.1,PU ns _ t nd.2 hl2]
  ·rw[tR ns _ _ j nd.1,rE (hl j (aT ..)),PU ns left _ nd.2 (λi hi=>by rw[dO];exact hl2 i hi),SH nd.1]
theorem PV:∀(ns left t:List Nat),(sD left t ns).length=t.length
 | [],_,_=>rfl
 | j::ns,left,t=>by
  rw[qF]
  split
  ·exact PV ns _ t
  ·rw[PV ns,dO]
theorem UW:∀(ns left t:List Nat) (i:Nat),ns.Nodup->i∈ns->i < t.length->(sD left t ns).getD i 0=t.getD i 0\/(sD left t ns).getD i 0=t.getD i 0+32
 | [],_,_,_,_,h,_=>by simp at h
 | j::ns,left,t,i,nd,h,hl=>by
  rw[dU] at nd
  rw[qF]
  by_cases e:i=j
  ·subst e
   split
   ·exact .inl (tR ns _ t i nd.1)
   ·rw[tR ns _ _ i nd.1,rE hl];exact .inr rfl
  ·have hi:=(bN.mp h).resolve_left e
   split
   ·exact UW ns _ t i nd.2 hi hl
   ·have:=UW ns left (t.set j (t.getD j 0+32)) i nd.2 hi (by rw[dO];exact hl)
    rw[kY (fE e)] at this
    exact this
theorem Ja:∀(L r:List Nat),Gf r L=0->FF r L=L
 | [],_,_=>rfl
 | c::L,r,h=>by
  rw[jU] at h
  rw[BR]
  split at h
  ·rename_i hm
   rw[if_pos hm,Ja L _ h]
  ·omega
theorem PQ {c:Nat}(h:yE c):aQ c=c/\aQ (c+32)=c:=by
 unfold yE at h
 unfold aQ
 rw[if_neg (by omega),if_pos (by omega)]
 omega
section
variable {b:List Nat}{d:Int}{cs:List fU}{u rk t:List Nat}
abbrev By (b:List Nat)(cs:List fU)(u:List Nat):List Nat:=(JT b cs).map λi=>u.getD i 0
theorem xM {i:Nat}:i∈JT b cs↔i < cs.length/\lR b (cs.getD i (0,0))=true:=by
 unfold JT
 rw[bO,bM]
theorem XH {ns:List Nat}(h:kU b d cs ns):ns.Perm (JT b cs):=by
 apply (List.perm_ext_iff_of_nodup (GT h) ((wU ..).filter _)).mpr
 intro i
 rw[wZ h, <-xM]
 exact Iff.rfl
theorem Ov (hl:cs.length=u.length)(hT:EK b d cs u rk t):t.length=u.length/\(∀i,i < u.length->lR b (cs.getD i (0,0))=false->t.getD i 0=aH b (cs.getD i (0,0)).1 (cs.getD i (0,0)).2)/\∀i∈JT b cs,t.getD i 0=u.getD i 0\/t.getD i 0=u.getD i 0+32:=by
 have l0:=wX (b:=b) hl
 have z0:∀i,i < u.length->lR b (cs.getD i (0,0))=false->(qW b cs u).getD i 0=aH b (cs.getD i (0,0)).1 (cs.getD i (0,0)).2:=λi hi he=>by
  rw[xD hl hi,if_neg (by rw[he];simp)]
 have z1:∀i∈JT b cs,(qW b cs u).getD i 0=u.getD i 0:=λi hi=>by
  obtain⟨h1,h2⟩:=xM.mp hi
  rw[xD hl (by omega),if_pos h2]
 unfold EK at hT
 split at hT
 ·obtain⟨ns,hv,rfl⟩:=hT
  refine⟨by rw[PV,l0],λi hi he=> ?_,λi hi=> ?_⟩
  ·rw[tR _ _ _ _ (λz=>by rw[((wZ hv).mp z).2] at he;cases he),z0 i hi he]
  ·obtain⟨h1,h2⟩:=xM.mp hi
   have:=UW ns rk (qW b cs u) i (GT hv) ((wZ hv).mpr ⟨h1,h2⟩) (by rw[l0];omega)
   rw[z1 i hi] at this
   exact this
 ·rw[hT]
  exact⟨l0,z0,λi hi=>.inl (z1 i hi)⟩
theorem Lo (hl:cs.length=u.length)(hu:∀c∈u,yE c)(hb:∀i,i < u.length->lR b (cs.getD i (0,0))=false->aQ (aH b (cs.getD i (0,0)).1 (cs.getD i (0,0)).2)=u.getD i 0)(hT:EK b d cs u rk t):t.map aQ=u:=by
 obtain⟨h1,h2,h3⟩:=Ov hl hT
 apply XQ (by rw[aA,h1])
 intro i hi
 rw[aA,h1] at hi
 have e:(t.map aQ).getD i 0=aQ (t.getD i 0):=by
  rw[aF,aP,aF,aE (by omega)]
  rfl
 rw[e]
 cases he:lR b (cs.getD i (0,0)) with
 | false=>rw[h2 i hi he,hb i hi he]
 | true=>
  have hc:=PQ (hu _ (sR hi))
  rcases h3 i (xM.mpr ⟨by omega,he⟩) with e | e
  ·rw[e,hc.1]
  ·rw[e,hc.2]
theorem XD (hl:cs.length=u.length)(hu:∀c∈u,yE c):∀c∈By b cs u,yE c:=λc hc=>by
 obtain⟨i,hi,rfl⟩:=bE.mp hc
 exact hu _ (sR (by rw[<-hl];exact(xM.mp hi).1))
theorem Lp (hl:cs.length=u.length)(hu:∀c∈u,yE c)(hF:Gf rk (By b cs u)<=rk.count 63)(hT:EK b d cs u rk t):fG rk ((JT b cs).map λi=>t.getD i 0)=true:=by
 have hc:=XD (b:=b) hl hu
 have l0:=wX (b:=b) hl
 have z1:∀i∈JT b cs,(qW b cs u).getD i 0=u.getD i 0:=λi hi=>by
  obtain⟨h1,h2⟩:=xM.mp hi
  rw[xD hl (by omega),if_pos h2]
 unfold EK at hT
 split at hT
 ·obtain⟨ns,hv,rfl⟩:=hT
  have hp:=XH hv
  have em:=PU ns rk (qW b cs u) (GT hv) (λi hi=>by rw[l0, <-hl];exact((wZ hv).mp hi).1)
  have e0:(ns.map λi=>(qW b cs u).getD i 0)=ns.map λi=>u.getD i 0:=dD λi hi=>z1 i (hp.mem_iff.mp hi)
  rw[e0] at em
  have hpu:(ns.map λi=>u.getD i 0).Perm (By b cs u):=hp.map _
  refine UX (L:=ns.map λi=>u.getD i 0) (λc hc'=>hc c (hpu.mem_iff.mp hc')) ?_ (by rw[Xa hpu];exact hF)
  rw[<-em]
  exact hp.symm.map _
 ·rename_i h63
  rw[hT,dD z1]
  have:rk.count 63=0:=BK.mpr λz=>h63 (aR.mpr z)
  refine UX (L:=By b cs u) hc ?_ hF
  rw[Ja _ _ (by omega)]
theorem Au {ns:List Nat}{f g:Nat->Nat}:(∀i∈ns,f i=g i\/f i=g i+32)->TB (ns.map f) (ns.map g):=by
 induction ns with
 | nil=>intro _;exact .nil
 | cons i ns ih=>intro h;exact .cons (h i (aT ..)) (ih λj hj=>h j (aN _ hj))
theorem Rz (hl:cs.length=u.length)(hu:∀c∈u,yE c)(hT:EK b d cs u rk t){v:List Nat}(vl:v.length=u.length)(v1:∀i,i < u.length->lR b (cs.getD i (0,0))=false->v.getD i 0=aH b (cs.getD i (0,0)).1 (cs.getD i (0,0)).2)(v2:∀i∈JT b cs,v.getD i 0=u.getD i 0\/v.getD i 0=u.getD i 0+32)(ht:fG rk ((JT b cs).map λi=>v.getD i 0)=true):v=t\/w6 (jY b d cs) t v:=by
 have hc:=XD (b:=b) hl hu
 have l0:=wX (b:=b) hl
 have z0:∀i,i < u.length->lR b (cs.getD i (0,0))=false->(qW b cs u).getD i 0=aH b (cs.getD i (0,0)).1 (cs.getD i (0,0)).2:=λi hi he=>by
  rw[xD hl hi,if_neg (by rw[he];simp)]
 have z1:∀i∈JT b cs,(qW b cs u).getD i 0=u.getD i 0:=λi hi=>by
  obtain⟨h1,h2⟩:=xM.mp hi
  rw[xD hl (by omega),if_pos h2]
 have sp:TB ((JT b cs).map λi=>v.getD i 0) (By b cs u):=Au v2
 obtain⟨t1,t2⟩:=BQ sp hc
 rw[AB] at ht
 unfold EK at hT
 split at hT
 ·obtain⟨ns,hv,rfl⟩:=hT
  have hp:=XH hv
  refine PR (cnt:=jY b d cs) (W:=Ys b d cs) (n:=u.length) (NS:=JT b cs) (λi _=>B8 b d cs _) (λw i c wl hi=> ?_) ns rk (qW b cs u) v (λi hi=> ?_) (GT hv) (Fc hv) l0 vl (λi hi=> ?_) (λi hi=> ?_) (λi hi=> ?_) λc hcc=> ?_
  ·obtain⟨h1,h2⟩:=xM.mp hi
   exact Tu (by omega) h1 h2
  ·have:=hp.mem_iff.mp hi
   exact⟨this,by rw[<-hl];exact(xM.mp this).1⟩
  ·have:=hp.mem_iff.mp hi
   rw[z1 i this]
   exact hu _ (sR (by rw[<-hl];exact(xM.mp this).1))
  ·have:=hp.mem_iff.mp hi
   rw[z1 i this]
   exact v2 i this
  ·by_cases h:i < u.length
   ·cases he:lR b (cs.getD i (0,0)) with
    | true=>exact absurd ((wZ hv).mpr ⟨by omega,he⟩) hi
    | false=>rw[v1 i h he,z0 i h he]
   ·rw[aF,eD (by omega),aF,eD (by omega)]
  ·rw[(hp.map _).count_eq, <-t2 c hcc]
   exact ht c
 ·rename_i h63
  left
  have h0:rk.count 63=0:=BK.mpr λz=>h63 (aR.mpr z)
  have h1:=ht 63
  rw[t1,h0] at h1
  have h2:(((JT b cs).map λi=>v.getD i 0).filter DJ)=[]:=xU (by omega)
  rw[hT]
  apply XQ (by rw[vl,l0])
  intro i hi
  rw[vl] at hi
  cases he:lR b (cs.getD i (0,0)) with
  | false=>rw[v1 i hi he,z0 i hi he]
  | true=>
   have hm:i∈JT b cs:=xM.mpr ⟨by omega,he⟩
   rw[z1 i hm]
   rcases v2 i hm with e | e
   ·exact e
   ·exfalso
    have hcap:=hu _ (sR hi)
    have:v.getD i 0∈(((JT b cs).map λi=>v.getD i 0).filter DJ):=bO.mpr ⟨bE.mpr ⟨i,hm,rfl⟩,by unfold yE at hcap;simp only[DJ,decide_eq_true_eq];omega⟩
    rw[h2] at this
    simp at this
end
theorem UF {u:List Nat}{l i:Nat}(h:i < u.length):(u++[l]).getD i 0=u.getD i 0:=by
 rw[aF,Ky h, <-aF]
theorem UG {u:List Nat}{l:Nat}:(u++[l]).getD u.length 0=l:=by
 rw[aF,Km (aU _),Nat.sub_self];rfl
section
variable {b:List Nat}{ws:List (List Nat)}{rk:List Nat}{m d:Int}{ks:List Nat->List Nat}{st:Nat}
abbrev pM (m d:Int)(st i:Nat):fU:=bB m d ((st+i:Nat):Int)
def CZ (b:List Nat)(ws:List (List Nat))(rk:List Nat)(m d:Int)(st i c:Nat):Prop:=if lR b (pM m d st i)=true then(oX b ws rk d (pM m d st i)).contains c=true else aQ (aH b (pM m d st i).1 (pM m d st i).2)=c
def rB (b:List Nat)(m d:Int)(st:Nat)(u:List Nat)(k:Nat):List Nat:=((bA k).filter λi=>lR b (pM m d st i)).map λi=>u.getD i 0
theorem LO (u:List Nat)(k:Nat):rB b m d st u (k+1)=rB b m d st u k++if lR b (pM m d st k)=true then[u.getD k 0] else[]:=by
 unfold rB
 rw[pC,UB,cC]
 congr 1
 by_cases h:lR b (pM m d st k)=true
 ·rw[if_pos h,iJ (by exact h)];rfl
 ·rw[if_neg h,kI (by exact h)];rfl
theorem LP {u:List Nat}{l:Nat}:rB b m d st (u++[l]) u.length=rB b m d st u u.length:=by
 unfold rB
 apply dD
 intro i hi
 exact UF (bM.mp (bO.mp hi).1)
theorem Sh {u:List Nat}{l:Nat}(h:uB ws (u++[l])):uB ws u:=by
 rcases h with h | ⟨w,hw,hp⟩
 ·simp at h
 ·exact .inr ⟨w,hw,(tG u [l]).trans hp⟩
theorem HN (hk:wV ws ks):∀(k:Nat) (u r:List Nat),(u,r)∈tD b ws rk m d ks st k↔uB ws u/\u.length=k/\(∀i,i < k->CZ b ws rk m d st i (u.getD i 0))/\yN rk (rB b m d st u k)=some r
 | 0,u,r=>by
  constructor
  ·intro h
   have h:(u,r)=([],rk):=by simpa[tD] using h
   injection h with h1 h2
   subst h1 h2
   exact⟨.inl rfl,rfl,λi hi=>by omega,rfl⟩
  ·rintro⟨_,h1,_,h2⟩
   have hu:u=[]:=xU h1
   subst hu
   have h2:some rk=some r:=h2
   cases h2
   exact cP.mpr rfl
 | k+1,u,r=>by
  constructor
  ·intro h
   have inv:=((HM (b:=b) (rk:=rk) (m:=m) (d:=d) (st:=st) hk (k+1)).1 _ h)
   unfold tD JD at h
   by_cases he:lR b (pM m d st k)=true
   ·rw[if_pos he] at h
    obtain⟨z,hz,l,hl,hc,hr,e⟩:=Ey h
    obtain⟨w1,w2,w3,w4⟩:=(HN hk k z.1 z.2).mp hz
    have e:u=z.1++[l]:=e
    subst e
    refine⟨inv.2.1,inv.1,λi hi=> ?_,?_⟩
    ·by_cases hik:i < k
     ·rw[UF (by omega)];exact w3 i hik
     ·have:i=z.1.length:=by omega
      rw[this,UG,w2]
      unfold CZ
      rw[if_pos he]
      exact hc
    ·rw[LO,if_pos he]
     have e1:(z.1++[l]).getD k 0=l:=by rw[<-w2,UG]
     have e2:rB b m d st (z.1++[l]) k=rB b m d st z.1 k:=by rw[<-w2];exact LP
     rw[e1,e2,KR,w4]
     exact hr
   ·rw[if_neg he] at h
    obtain⟨z,hz,hc,e⟩:=Ip h
    obtain⟨w1,w2,w3,w4⟩:=(HN hk k z.1 z.2).mp hz
    injection e with e1 e2
    subst e1 e2
    refine⟨inv.2.1,inv.1,λi hi=> ?_,?_⟩
    ·by_cases hik:i < k
     ·rw[UF (by omega)];exact w3 i hik
     ·have:i=z.1.length:=by omega
      rw[this,UG,w2]
      unfold CZ
      rw[if_neg he]
    ·rw[LO,if_neg he,eX]
     have e2:rB b m d st (z.1++[aQ (aH b (pM m d st k).1 (pM m d st k).2)]) k=rB b m d st z.1 k:=by rw[<-w2];exact LP
     rw[e2]
     exact w4
  ·rintro⟨h1,h2,h3,h4⟩
   obtain⟨u',l,rfl⟩:∃u' l,u=u'++[l]:=by
    refine⟨u.dropLast,u.getLast (by intro z;rw[z] at h2;simp at h2),?_⟩
    rw[List.dropLast_concat_getLast]
   have hl:u'.length=k:=by simpa using h2
   have hp:=Sh h1
   have hkm:=(hk.keys u' hp l).mpr h1
   have hg:=h3 k (by omega)
   have e1:(u'++[l]).getD k 0=l:=by rw[<-hl,UG]
   have e2:rB b m d st (u'++[l]) k=rB b m d st u' k:=by rw[<-hl];exact LP
   rw[e1] at hg
   rw[LO,e1,e2] at h4
   have h3':∀i,i < k->CZ b ws rk m d st i (u'.getD i 0):=λi hi=>by
    have:=h3 i (by omega)
    rwa [UF (by omega)] at this
   unfold CZ at hg
   unfold tD JD
   by_cases he:lR b (pM m d st k)=true
   ·rw[if_pos he] at hg h4
    rw[if_pos he]
    rw[KR] at h4
    obtain⟨r',h5,h6⟩:=Kw.mp h4
    exact F8 ((HN hk k u' r').mpr ⟨hp,hl,h3',h5⟩) hkm hg h6
   ·rw[if_neg he] at hg h4
    rw[if_neg he]
    rw[eX] at h4
    have:=i7 (ks:=ks) (c:=l) ((HN hk k u' r).mpr ⟨hp,hl,h3',h4⟩) hkm
    rw[<-hg] at this ⊢
    exact this
theorem Jr {wl:List EA}{u:List Nat}:u∈zA ws rk wl↔u∈ws/\∃r,(u,r)∈wl/\r.length < rk.length:=by
 unfold zA
 rw[bO,aR,bE]
 constructor
 ·rintro⟨⟨z,hz,e⟩,h⟩
  obtain⟨h1,h2⟩:=bO.mp hz
  subst e
  exact⟨h,z.2,h1,of_decide_eq_true h2⟩
 ·rintro⟨h,r,h1,h2⟩
  exact⟨⟨(u,r),bO.mpr ⟨h1,decide_eq_true h2⟩,rfl⟩,h⟩
theorem Fg {t0:Nat}{u:List Nat}:∀K,u∈wJ b ws rk m d ks st t0 K↔∃k,k < K/\t0<=st+k/\freeC b m d ((st+k+1:Nat):Int)=true/\u∈zA ws rk (tD b ws rk m d ks st (k+1))
 | 0=>by simp[wJ]
 | K+1=>by
  have e:wJ b ws rk m d ks st t0 (K+1)=wJ b ws rk m d ks st t0 K++if(decide (t0<=st+K)&&freeC b m d ((st+K+1:Nat):Int))=true then zA ws rk (tD b ws rk m d ks st (K+1)) else[]:=rfl
  rw[e,cW,Fg K]
  constructor
  ·rintro(⟨k,h1,h2⟩ | h)
   ·exact⟨k,by omega,h2⟩
   ·split at h
    ·rename_i hc
     rw[bH,decide_eq_true_eq] at hc
     exact⟨K,by omega,hc.1,hc.2,h⟩
    ·simp at h
  ·rintro⟨k,h1,h2,h3,h4⟩
   by_cases hk:k < K
   ·exact .inl ⟨k,hk,h2,h3,h4⟩
   ·have:k=K:=by omega
    subst this
    right
    rw[if_pos (by rw[bH,decide_eq_true_eq];exact⟨h2,h3⟩)]
    exact h4
theorem Bm {t0:Nat}:GL b m d st=some t0↔t0∈fM b m d/\st<=t0/\∀v∈fM b m d,st<=v->t0<=v:=by
 constructor
 ·intro h
  unfold GL at h
  have hp:((fM b m d).filter λt=>decide (st<=t)).Pairwise (·< ·):=(MN b m d).filter _
  have hm:∀v,v∈(fM b m d).filter (λt=>decide (st<=t))↔v∈fM b m d/\st<=v:=λv=>by rw[bO,decide_eq_true_eq]
  generalize (fM b m d).filter (λt=>decide (st<=t))=l at h hp hm
  cases l with
  | nil=>simp at h
  | cons x l=>
   rw[P6] at h
   injection h with h
   subst h
   obtain⟨h1,h2⟩:=(hm x).mp (aT ..)
   refine⟨h1,h2,λv hv hs=> ?_⟩
   rcases bN.mp ((hm v).mpr ⟨hv,hs⟩) with e | e
   ·omega
   ·exact KJ ((oM.mp hp).1 v e)
 ·rintro⟨h1,h2,h3⟩
  exact WW h1 h2 h3
theorem YA (hk:wV ws ks){u:List Nat}:(st,u)∈rF b ws rk ks m d 15↔st < 15/\freeC b m d ((st:Int) - 1)=true/\u∈ws/\1<=u.length/\st+u.length<=15/\freeC b m d ((st+u.length:Nat):Int)=true/\(∀i,i < u.length->CZ b ws rk m d st i (u.getD i 0))/\(yN rk (rB b m d st u u.length)).isSome=true/\rB b m d st u u.length≠[]/\∃t0,GL b m d st=some t0/\t0<=st+rk.length/\t0 < st+u.length:=by
 unfold rF
 rw[jN]
 constructor
 ·rintro⟨st',hs,h⟩
  have hs:=bM.mp hs
  split at h
  ·rename_i hf
   obtain⟨u',hu,e⟩:=bE.mp h
   injection e with e1 e2
   subst e1 e2
   unfold gD at hu
   split at hu
   ·simp at hu
   ·rename_i t0 hn
    split at hu
    ·simp at hu
    ·rename_i hle
     obtain⟨k,k1,k2,k3,k4⟩:=(Fg _).mp hu
     obtain⟨e1,r,e2,e3⟩:=Jr.mp k4
     obtain⟨w1,w2,w3,w4⟩:=(HN hk _ _ _).mp e2
     refine⟨hs,hf,e1,by omega,by omega,by rw[w2];exact k3,by rw[w2];exact w3,by rw[w2,w4];rfl,λz=> ?_,t0,hn,by omega,by omega⟩
     rw[w2] at z
     have:=HP _ _ _ w4
     rw[z] at this
     simp at this
     omega
  ·simp at h
 ·rintro⟨h1,h2,h3,h4,h5,h6,h7,h8,h9,t0,n1,n2,n3⟩
  refine⟨st,bM.mpr h1,?_⟩
  rw[if_pos h2]
  refine bE.mpr ⟨u,?_,rfl⟩
  unfold gD
  rw[n1]
  show u∈if st+rk.length < t0 then[] else _
  rw[if_neg (by omega)]
  obtain⟨r,hr⟩:=rW.mp h8
  have e:u.length - 1+1=u.length:=by omega
  refine(Fg _).mpr ⟨u.length - 1,by omega,by omega,?_,Jr.mpr ⟨h3,r,?_,?_⟩⟩
  ·rw[show st+(u.length - 1)+1=st+u.length by omega];exact h6
  ·rw[e]
   exact(HN hk _ _ _).mpr ⟨.inr ⟨u,h3,wR u⟩,rfl,h7,hr⟩
  ·have:=HP _ _ _ hr
   have:=zE.mpr h9
   omega
end
theorem mH {m d:Int}(hd:d=0\/d=1)(st i:Int):bQ (bB m d st).1 (bB m d st).2 d i=bB m d (st+i):=by
 unfold bB bQ
 rcases hd with rfl | rfl <;> simp <;> omega
theorem Xg {m d i:Int}(hd:d=0\/d=1)(h:¬(0<=i/\i < 15))(b:List Nat):aH b (bB m d i).1 (bB m d i).2=0:=by
 unfold aH
 rw[if_neg]
 unfold bB bQ
 rcases hd with rfl | rfl <;> simp <;> omega
theorem HX {m d:Int}(hd:d=0\/d=1)(b:List Nat)(st i:Int):(under b (bB m d st).1 (bB m d st).2 d i==0)=freeC b m d (st+i):=by
 unfold under freeC
 rw[mH hd]
 by_cases h:0<=st+i/\st+i < 15
 ·rw[decide_eq_true h.1,decide_eq_true h.2]
  simp[lR]
 ·rw[Xg hd h]
  have:(decide (0<=st+i)&&decide (st+i < 15))=false:=by
   rw[MD,decide_eq_false_iff_not,decide_eq_false_iff_not]
   omega
  rw[this];rfl
theorem OI {x y d:Int}{n i:Nat}(h:i < n):(dB x y d n).getD i (0,0)=bQ x y d i:=by
 unfold dB
 rw[aF,aP,iU h];rfl
theorem QU (x y d:Int)(n:Nat):(dB x y d n).length=n:=by
 unfold dB
 rw[aA,cR]
theorem HR (b:List Nat)(x y d:Int)(n:Nat):JT b (dB x y d n)=cE b x y d n:=by
 unfold JT cE
 rw[QU]
 apply mN
 intro i hi
 rw[OI (bM.mp hi)]
 rfl
theorem kQ {b:List Nat}{x y d:Int}{n i:Nat}:i∈cE b x y d n↔i < n/\under b x y d i=0:=by
 unfold cE
 rw[bO,bM,beq_iff_eq]
theorem pH {m d:Int}(hd:d=0\/d=1)(b:List Nat)(st:Nat)(u:List Nat)(n:Nat):rB b m d st u n=(cE b (bB m d st).1 (bB m d st).2 d n).map λi=>u.getD i 0:=by
 unfold rB cE
 congr 1
 apply mN
 intro i _
 unfold under lR
 rw[mH hd]
 rfl
theorem UN (b:List Nat)(x y d:Int)(t:List Nat)(i:Nat):gZ b x y d t i=nE b (bQ x y d i).1 (bQ x y d i).2 d (t.getD i 0):=by
 unfold gZ nE tS vD zI
 dsimp only
 rw[OW]
 cases h:((nJ b (-d) (-(1 - d)) 15 ((bQ x y d i).1 - d) ((bQ x y d i).2 - (1 - d))).isEmpty&&(nJ b d (1 - d) 15 ((bQ x y d i).1+d) ((bQ x y d i).2+(1 - d))).isEmpty)
 ·rfl
 ·rfl
theorem IA {b:List Nat}{x y d:Int}{c:Nat}:(nE b x y d c).isEmpty= !tS b x y d:=by
 unfold nE
 cases tS b x y d
 ·rfl
 ·simp
theorem Jx {b:List Nat}{x y d:Int}{c c':Nat}(h:aQ c=aQ c'):(nE b x y d c).map aQ=(nE b x y d c').map aQ:=by
 unfold nE
 split
 ·simp only[cC,aJ,mL,h]
 ·rfl
theorem OG {ws:List (List Nat)}{b:List Nat}{x y d:Int}{t:List Nat}:((gG b x y d t).all λl=>gS ⟨ws,b⟩ l)=true↔∀i∈cE b x y d t.length,tS b (bQ x y d i).1 (bQ x y d i).2 d=true->ws.contains ((nE b (bQ x y d i).1 (bQ x y d i).2 d (t.getD i 0)).map aQ)=true:=by
 rw[cN]
 unfold gG
 constructor
 ·intro h i hi hs
  refine h _ (bO.mpr ⟨bE.mpr ⟨i,hi,UN ..⟩,?_⟩)
  rw[IA,hs];rfl
 ·intro h l hl
  obtain⟨h1,h2⟩:=bO.mp hl
  obtain⟨i,hi,rfl⟩:=bE.mp h1
  rw[UN] at h2 ⊢
  refine h i hi ?_
  rw[IA] at h2
  simpa using h2
theorem SU {b:List Nat}{x y d:Int}{t:List Nat}:(!(gG b x y d t).isEmpty)=true↔∃i∈cE b x y d t.length,tS b (bQ x y d i).1 (bQ x y d i).2 d=true:=by
 unfold gG
 constructor
 ·intro h
  cases e:((cE b x y d t.length).map λi=>gZ b x y d t i).filter λl=> !l.isEmpty with
  | nil=>rw[e] at h;simp at h
  | cons l ls=>
   have hm:l∈((cE b x y d t.length).map λi=>gZ b x y d t i).filter λl=> !l.isEmpty:=by rw[e];exact aT ..
   obtain⟨h1,h2⟩:=bO.mp hm
   obtain⟨i,hi,rfl⟩:=bE.mp h1
   rw[UN,IA] at h2
   exact⟨i,hi,by simpa using h2⟩
 ·rintro⟨i,hi,hs⟩
  have hm:gZ b x y d t i∈((cE b x y d t.length).map λi=>gZ b x y d t i).filter λl=> !l.isEmpty:=bO.mpr ⟨bE.mpr ⟨i,hi,rfl⟩,by rw[UN,IA,hs];rfl⟩
  cases e:((cE b x y d t.length).map λi=>gZ b x y d t i).filter λl=> !l.isEmpty with
  | nil=>rw[e] at hm;simp at hm
  | cons l ls=>rfl
theorem An {m d:Int}(hm:0<=m/\m < 15)(hd:d=0\/d=1){b:List Nat}{st:Nat}{t:List Nat}(hl:st+t.length<=15):nY b (bB m d st).1 (bB m d st).2 d t=true↔∃i,i < t.length/\st+i∈fM b m d:=by
 unfold nY fM
 cases ha:(b.all λc=>c==0) with
 | true=>
  rw[if_pos rfl,if_pos rfl]
  unfold zU
  rw[jO]
  have key:∀i:Nat,i < t.length->(((bQ (bB m d st).1 (bB m d st).2 d i).1=7/\(bQ (bB m d st).1 (bB m d st).2 d i).2=7)↔m=7/\st+i=7):=λi _=>by
   rw[mH hd]
   unfold bB bQ
   rcases hd with rfl | rfl <;> simp <;> omega
  constructor
  ·rintro⟨i,hi,h⟩
   have hi:=bM.mp hi
   rw[bH,decide_eq_true_eq,decide_eq_true_eq,key i hi] at h
   exact⟨i,hi,by rw[if_pos h.1,h.2];exact cP.mpr rfl⟩
  ·rintro⟨i,hi,h⟩
   split at h
   ·rename_i h7
    refine⟨i,bM.mpr hi,?_⟩
    rw[bH,decide_eq_true_eq,decide_eq_true_eq,key i hi]
    exact⟨h7,cP.mp h⟩
   ·simp at h
 | false=>
  rw[if_neg (by simp),if_neg (by simp),dP,SU,decide_eq_true_eq]
  have key:∀i:Nat,i < t.length->(st+i∈(bA 15).filter (λ(i:Nat)=> !lR b (bB m d i) || tS b (bB m d i).1 (bB m d i).2 d)↔(under b (bB m d st).1 (bB m d st).2 d i≠0\/tS b (bQ (bB m d st).1 (bB m d st).2 d i).1 (bQ (bB m d st).1 (bB m d st).2 d i).2 d=true)):=λi hi=>by
   rw[bO,bM,dP]
   unfold under
   rw[mH hd]
   have e:((st:Int)+(i:Int))=((st+i:Nat):Int):=by omega
   rw[e]
   unfold lR
   have:st+i < 15:=by omega
   simp[this]
  constructor
  ·rintro(h | ⟨i,hi,hs⟩)
   ·have hex:∃i,i < t.length/\under b (bB m d st).1 (bB m d st).2 d i≠0:=by
     apply lF
     intro hn
     have hall:cE b (bB m d st).1 (bB m d st).2 d t.length=bA t.length:=by
      unfold cE
      apply RN.mpr
      intro i hi
      rw[beq_iff_eq]
      apply lF
      intro h0
      exact hn ⟨i,bM.mp hi,h0⟩
     rw[hall,cR] at h
     omega
    obtain⟨i,hi,h0⟩:=hex
    exact⟨i,hi,(key i hi).mpr (.inl h0)⟩
   ·have hi':=(kQ.mp hi).1
    exact⟨i,hi',(key i hi').mpr (.inr hs)⟩
  ·rintro⟨i,hi,h⟩
   by_cases h0:under b (bB m d st).1 (bB m d st).2 d i=0
   ·rcases(key i hi).mp h with h | h
    ·exact absurd h0 h
    ·exact .inr ⟨i,kQ.mpr ⟨hi,h0⟩,h⟩
   ·left
    have hsub:(cE b (bB m d st).1 (bB m d st).2 d t.length).length<=((bA t.length).erase i).length:=by
     refine AZ ((wU ..).filter _) λj hj=> ?_
     obtain⟨j1,j2⟩:=kQ.mp hj
     exact(xS (λz=>h0 (by rw[<-z];exact j2))).mpr (bM.mpr j1)
    rw[mQ (bM.mpr hi),cR] at hsub
    omega
theorem UD {α:Type}{f:α->Int}:∀{l:List α},(∀x∈l,0<=f x)->0<=(l.map f).sum
 | [],_=>Zq _
 | x::l,h=>by
  have h1:=h x (aT ..)
  have h2:=UD (l:=l) (f:=f) λy hy=>h y (aN _ hy)
  rw[aJ,dW]
  omega
theorem Pf (l:List Nat):0<=dA l:=by
 unfold dA
 exact UD λc _=>by omega
theorem Cm (b:List Nat)(d:Int)(cs:List fU)(w:List Nat):0<=jY b d cs w:=by
 unfold jY
 have h1:=XO b cs 1 (by decide)
 have h2:0<=((cs.zip w).map (Uv b)).sum:=UD λz _=>by
  unfold Uv
  have:=Ew z.1
  split
  ·exact BO (by omega) (by omega)
  ·omega
 have h3:0<=((cs.zip w).map (Uy b d)).sum:=UD λz _=>by
  unfold Uy
  have a1:=Ew z.1
  have a2:=Le z.1
  have a3:=Pf (vD b z.1.1 z.1.2 d)
  have a4:=Pf (zI b z.1.1 z.1.2 d)
  split
  ·split
   ·have:0<=((cH z.2:Nat):Int) * Xi z.1:=BO (by omega) (by omega)
    exact BO (by omega) (by omega)
   ·exact Zq _
  ·exact Zq _
 have h4:0<=Kb b cs:=by unfold Kb;split <;> omega
 have h5:0<=((cs.zip w).map (Uv b)).sum * oZ b cs:=BO h2 (by unfold oZ;omega)
 omega
section
variable {b:List Nat}{ws:List (List Nat)}{rk:List Nat}{m d:Int}{ks:List Nat->List Nat}{st:Nat}
theorem Ot {t u:List Nat}(h:t.map aQ=u){i:Nat}(hi:i < t.length):aQ (t.getD i 0)=u.getD i 0:=by
 rw[<-h,aF,aE hi,aF,aP,aE hi]
 rfl
theorem Tx (hw:TY ws)(hm:0<=m/\m < 15)(hd:d=0\/d=1)(hk:wV ws ks){u t:List Nat}(h:(st,u)∈rF b ws rk ks m d 15)(hT:EK b d (dB (bB m d st).1 (bB m d st).2 d u.length) u rk t):t.map aQ=u/\rC ⟨ws,b⟩ (bB m d st).1 (bB m d st).2 d t rk=jY b d (dB (bB m d st).1 (bB m d st).2 d t.length) t:=by
 obtain⟨h1,h2,h3,h4,h5,h6,h7,h8,h9,t0,n1,n2,n3⟩:=(YA hk).mp h
 obtain⟨w1,w2,w3⟩:=hw.each u h3
 have hcl:=QU (bB m d st).1 (bB m d st).2 d u.length
 have hcat:∀i,i < u.length->(dB (bB m d st).1 (bB m d st).2 d u.length).getD i (0,0)=pM m d st i:=λi hi=>by
  rw[OI hi,mH hd];rfl
 have hbd:∀i,i < u.length->lR b ((dB (bB m d st).1 (bB m d st).2 d u.length).getD i (0,0))=false->aQ (aH b ((dB (bB m d st).1 (bB m d st).2 d u.length).getD i (0,0)).1 ((dB (bB m d st).1 (bB m d st).2 d u.length).getD i (0,0)).2)=u.getD i 0:=λi hi he=>by
  rw[hcat i hi] at he ⊢
  have:=h7 i hi
  unfold CZ at this
  rwa [if_neg (by rw[he];simp)] at this
 obtain⟨t1,t2,t3⟩:=Ov hcl hT
 have hup:=Lo hcl w3 hbd hT
 refine⟨hup,?_⟩
 rw[count_eq b (bB m d st).1 (bB m d st).2 d t hd]
 have hL:rB b m d st u u.length=By b (dB (bB m d st).1 (bB m d st).2 d u.length) u:=by rw[pH hd, <-HR]
 have htk:=Lp hcl w3 (by rw[<-hL];exact(BS _ _ (by rw[hL];exact XD hcl w3)).mp h8) hT
 rw[HR] at htk
 unfold rC
 have c1:lV b (bB m d st).1 (bB m d st).2 d t=true:=by
  unfold lV
  have e1:kZ (bQ (bB m d st).1 (bB m d st).2 d ((t.length:Int) - 1)).1 (bQ (bB m d st).1 (bB m d st).2 d ((t.length:Int) - 1)).2=true:=by
   rw[mH hd,zO,t1]
   unfold bB bQ
   rcases hd with rfl | rfl <;> simp <;> omega
  have e2:(under b (bB m d st).1 (bB m d st).2 d (-1)==0)=true:=by rw[HX hd];exact h2
  have e3:(under b (bB m d st).1 (bB m d st).2 d (t.length:Nat)==0)=true:=by
   rw[HX hd,t1]
   have:((st:Int)+(u.length:Nat))=((st+u.length:Nat):Int):=by omega
   rw[this];exact h6
  have e4:((bA t.length).all λi=>under b (bB m d st).1 (bB m d st).2 d i==0 || under b (bB m d st).1 (bB m d st).2 d i==t.getD i 0)=true:=by
   rw[cN]
   intro i hi
   have hi:=bM.mp hi
   rw[t1] at hi
   have ec:=OI (x:=(bB m d st).1) (y:=(bB m d st).2) (d:=d) hi
   cases he:lR b ((dB (bB m d st).1 (bB m d st).2 d u.length).getD i (0,0)) with
   | true=>
    rw[ec] at he
    have:under b (bB m d st).1 (bB m d st).2 d i=0:=by simpa[lR,under] using he
    rw[this];rfl
   | false=>
    have:=t2 i hi he
    rw[ec] at this
    rw[this]
    show(_ || under b (bB m d st).1 (bB m d st).2 d i==under b (bB m d st).1 (bB m d st).2 d i)=true
    simp
  have e5:0 < (cE b (bB m d st).1 (bB m d st).2 d t.length).length:=by
   rw[t1]
   rw[pH hd] at h9
   apply zE.mpr
   intro z
   rw[z] at h9
   exact h9 rfl
  rw[e1,e2,e3,e4,decide_eq_true e5,decide_eq_true (by omega)]
  rfl
 have c2:fG rk ((cE b (bB m d st).1 (bB m d st).2 d t.length).map λi=>t.getD i 0)=true:=by rw[t1];exact htk
 have c3:nY b (bB m d st).1 (bB m d st).2 d t=true:=by
  obtain⟨q1,q2,q3⟩:=Bm.mp n1
  refine(An hm hd (by omega)).mpr ⟨t0 - st,by omega,?_⟩
  rw[show st+(t0 - st)=t0 by omega]
  exact q1
 have c4:(gS ⟨ws,b⟩ t&&(gG b (bB m d st).1 (bB m d st).2 d t).all λl=>gS ⟨ws,b⟩ l)=true:=by
  rw[bH]
  refine⟨?_,OG.mpr λi hi hs=> ?_⟩
  ·show ws.contains (t.map aQ)=true
   rw[hup]
   exact aR.mpr h3
  ·obtain⟨i1,i2⟩:=kQ.mp hi
   have hiu:i < u.length:=by omega
   have hem:lR b (pM m d st i)=true:=by
    unfold under at i2
    rw[mH hd] at i2
    unfold lR
    rw[show pM m d st i=bB m d ((st:Int)+(i:Int)) from by show bB m d ((st+i:Nat):Int)=_;congr 1,i2]
    rfl
   have hg:=h7 i hiu
   unfold CZ at hg
   rw[if_pos hem] at hg
   unfold oX at hg
   have ec:bQ (bB m d st).1 (bB m d st).2 d i=pM m d st i:=by rw[mH hd];rfl
   rw[ec] at hs ⊢
   rw[if_pos hem,if_pos hs] at hg
   have:=(bO.mp (aR.mp hg)).2
   rw[Jx (c':=u.getD i 0)]
   ·exact this
   ·rw[Ot hup (by omega)]
    exact((PQ (w3 _ (sR hiu))).1).symm
 rw[if_neg (by rw[c1];simp),if_neg (by rw[c2];simp),if_neg (by rw[c3];simp),if_neg (by rw[c4];simp)]
theorem Am {c:Nat}(h:yE (aQ c)):c=aQ c\/c=aQ c+32:=by
 unfold yE aQ at h
 unfold aQ
 split at h
 ·rename_i h0
  rw[if_pos h0]
  right;omega
 ·rename_i h0
  rw[if_neg h0];exact .inl rfl
theorem Td (hw:TY ws)(hm:0<=m/\m < 15)(hd:d=0\/d=1)(hk:wV ws ks)(hst:st < 15){v:List Nat}(h:0<=rC ⟨ws,b⟩ (bB m d st).1 (bB m d st).2 d v rk):(st,v.map aQ)∈rF b ws rk ks m d 15/\rC ⟨ws,b⟩ (bB m d st).1 (bB m d st).2 d v rk=jY b d (dB (bB m d st).1 (bB m d st).2 d v.length) v/\
  ∀t,EK b d (dB (bB m d st).1 (bB m d st).2 d (v.map aQ).length) (v.map aQ) rk t->v=t\/w6 (jY b d (dB (bB m d st).1 (bB m d st).2 d v.length)) t v:=by
 unfold rC at h ⊢
 by_cases c1:lV b (bB m d st).1 (bB m d st).2 d v=false
 ·rw[if_pos c1] at h;omega
 rw[if_neg c1] at h ⊢
 by_cases c2:fG rk ((cE b (bB m d st).1 (bB m d st).2 d v.length).map λi=>v.getD i 0)=false
 ·rw[if_pos c2] at h;omega
 rw[if_neg c2] at h ⊢
 by_cases c3:nY b (bB m d st).1 (bB m d st).2 d v=false
 ·rw[if_pos c3] at h;omega
 rw[if_neg c3] at h ⊢
 by_cases c4:(gS ⟨ws,b⟩ v&&(gG b (bB m d st).1 (bB m d st).2 d v).all λl=>gS ⟨ws,b⟩ l)=false
 ·rw[if_pos c4] at h;omega
 rw[if_neg c4] at h ⊢
 have tr:∀{x:Bool},¬x=false->x=true:=λ{x} h=>by cases x <;> simp at h ⊢
 have c1:=tr c1
 have c2:=tr c2
 have c3:=tr c3
 have c4:=tr c4
 rw[bH] at c4
 have hmem:v.map aQ∈ws:=aR.mp c4.1
 obtain⟨w1,w2,w3⟩:=hw.each _ hmem
 have ul:(v.map aQ).length=v.length:=aA _
 unfold lV at c1
 simp only[bH,decide_eq_true_eq] at c1
 obtain⟨⟨⟨⟨f1,f2⟩,f3,f4⟩,f5⟩,f6⟩:=c1
 have hend:st+v.length<=15:=by
  rw[mH hd,zO] at f2
  unfold bB bQ at f2
  rcases hd with rfl | rfl <;> simp at f2 <;> omega
 have hup:∀i,i < v.length->aQ (v.getD i 0)=(v.map aQ).getD i 0:=λi hi=>Ot rfl hi
 have hcap:∀i,i < v.length->yE ((v.map aQ).getD i 0):=λi hi=>w3 _ (sR (by omega))
 have hspell:∀i,i < v.length->v.getD i 0=(v.map aQ).getD i 0\/v.getD i 0=(v.map aQ).getD i 0+32:=λi hi=>by
  rw[<-hup i hi]
  exact Am (by rw[hup i hi];exact hcap i hi)
 have hagree:∀i,i < v.length->under b (bB m d st).1 (bB m d st).2 d i≠0->under b (bB m d st).1 (bB m d st).2 d i=v.getD i 0:=λi hi h0=>by
  have:=cN.mp f5 i (bM.mpr hi)
  rw[dP,beq_iff_eq,beq_iff_eq] at this
  exact this.resolve_left h0
 have ecell:∀i:Nat,under b (bB m d st).1 (bB m d st).2 d i=aH b (pM m d st i).1 (pM m d st i).2:=λi=>by
  unfold under
  rw[mH hd];rfl
 have eem:∀i:Nat,lR b (pM m d st i)=true↔under b (bB m d st).1 (bB m d st).2 d i=0:=λi=>by
  rw[ecell];unfold lR;rw[beq_iff_eq]
 have hspl:TB ((cE b (bB m d st).1 (bB m d st).2 d v.length).map λi=>v.getD i 0) (rB b m d st (v.map aQ) v.length):=by
  rw[pH hd]
  exact Au λi hi=>hspell i (kQ.mp hi).1
 have hlcap:∀c∈rB b m d st (v.map aQ) v.length,yE c:=λc hc=>by
  rw[pH hd] at hc
  obtain⟨i,hi,rfl⟩:=bE.mp hc
  exact hcap i (kQ.mp hi).1
 have htake:=UY hspl hlcap c2
 refine⟨(YA hk).mpr ⟨hst,?_,hmem,by omega,by omega,?_,?_,by rw[ul];exact htake,?_,?_⟩,?_,?_⟩
 ·rw[HX hd] at f3
  exact f3
 ·rw[HX hd] at f4
  rw[ul]
  have:((st:Int)+(v.length:Nat))=((st+v.length:Nat):Int):=by omega
  rw[<-this];exact f4
 ·intro i hi
  rw[ul] at hi
  unfold CZ
  by_cases he:lR b (pM m d st i)=true
  ·rw[if_pos he]
   have hip:i∈cE b (bB m d st).1 (bB m d st).2 d v.length:=kQ.mpr ⟨hi,(eem i).mp he⟩
   have hlay:(v.map aQ).getD i 0∈ZV rk:=by
    unfold ZV
    refine bO.mpr ⟨?_,?_⟩
    ·unfold K6
     have:=hcap i hi
     unfold yE at this
     simp only[bE,bM]
     first
      | exact⟨(v.map aQ).getD i 0 - 65,by omega,by omega⟩
      | skip
    ·rw[dP,aR,aR]
     have hcnt:=(AB _ _).mp c2 (eT (v.getD i 0))
     have hpos:0 < (((cE b (bB m d st).1 (bB m d st).2 d v.length).map λi=>v.getD i 0).map eT).count (eT (v.getD i 0)):=iA.mpr (bE.mpr ⟨_,bE.mpr ⟨i,hip,rfl⟩,rfl⟩)
     have hin:eT (v.getD i 0)∈rk:=iA.mp (by omega)
     have hc:=hcap i hi
     unfold yE at hc
     unfold eT at hin
     rcases hspell i hi with e | e
     ·rw[if_neg (by omega),e] at hin
      exact .inl hin
     ·rw[if_pos (by omega)] at hin
      exact .inr hin
   unfold oX
   rw[if_pos he]
   split
   ·rename_i hs
    refine aR.mpr (bO.mpr ⟨hlay,?_⟩)
    have ec:bQ (bB m d st).1 (bB m d st).2 d i=pM m d st i:=by rw[mH hd];rfl
    have:=OG.mp c4.2 i hip (by rw[ec];exact hs)
    rw[ec,Jx (c':=(v.map aQ).getD i 0)] at this
    ·exact this
    ·rw[hup i hi]
     exact((PQ (hcap i hi)).1).symm
   ·exact aR.mpr hlay
  ·rw[if_neg he, <-ecell,hagree i hi (λz=>he ((eem i).mpr z)),hup i hi]
 ·rw[ul,pH hd]
  intro z
  have:=RL.mp z
  rw[this] at f6
  simp at f6
 ·obtain⟨i,hi,hti⟩:=(An hm hd hend).mp c3
  have hne:∃t0,GL b m d st=some t0:=by
   unfold GL
   have hmf:st+i∈(fM b m d).filter λt=>decide (st<=t):=bO.mpr ⟨hti,decide_eq_true (by omega)⟩
   cases e:(fM b m d).filter λt=>decide (st<=t) with
   | nil=>rw[e] at hmf;simp at hmf
   | cons x l=>exact⟨x,rfl⟩
  obtain⟨t0,ht0⟩:=hne
  obtain⟨q1,q2,q3⟩:=Bm.mp ht0
  have h0:=q3 _ hti (by omega)
  refine⟨t0,ht0,?_,by omega⟩
  obtain⟨r,hr⟩:=rW.mp htake
  have hlen:=HP _ _ _ hr
  have hsub:(bA (t0 - st)).length<=(cE b (bB m d st).1 (bB m d st).2 d v.length).length:=by
   refine AZ (wU ..) λj hj=> ?_
   have hj:=bM.mp hj
   refine kQ.mpr ⟨by omega,(eem j).mp ?_⟩
   have hnt:¬st+j∈fM b m d:=λz=>by have:=q3 _ z (by omega);omega
   unfold fM at hnt
   split at hnt
   ·rename_i ha
    unfold lR
    rw[beq_iff_eq]
    unfold aH
    split
    ·rw[aF]
     cases e:b[((pM m d st j).1+15 * (pM m d st j).2).toNat]? with
     | none=>rfl
     | some c=>
      have:=cN.mp ha c (aY e)
      simpa using this
    ·rfl
   ·apply tr
    intro he
    refine hnt (bO.mpr ⟨bM.mpr (by omega),?_⟩)
    have he:lR b (bB m d ((st+j:Nat):Int))=false:=he
    rw[he];rfl
  rw[cR] at hsub
  rw[pH hd,aA] at hlen
  omega
 ·rw[<-count_eq b (bB m d st).1 (bB m d st).2 d v hd]
 ·intro t hT
  rw[ul] at hT
  have hcl:=QU (bB m d st).1 (bB m d st).2 d v.length
  refine Rz (hcl.trans ul.symm) w3 hT ul.symm (λi hi he=> ?_) (λi hi=> ?_) (by rw[HR];exact c2)
  ·rw[ul] at hi
   rw[OI hi] at he ⊢
   exact(hagree i hi (λz=>by
    have z:aH b (bQ (bB m d st).1 (bB m d st).2 d i).1 (bQ (bB m d st).1 (bB m d st).2 d i).2=0:=z
    unfold lR at he
    rw[z] at he
    simp at he)).symm
  ·rw[HR] at hi
   exact hspell i (kQ.mp hi).1
end
theorem j7 (b:List Nat)(c:Int×Int):Sz32.look b.toArray c=aH b c.1 c.2:=by
 unfold Sz32.look aH
 by_cases h:0<=c.1/\c.1 < 15/\0<=c.2/\c.2 < 15
 ·rw[if_pos (zO.mpr h),if_pos h]
  simp
 ·rw[if_neg (λz=>h (zO.mp z)),if_neg h]
theorem Wd {b:List Nat}{sx sy x y:Int}:(nJ b sx sy 15 x y).isEmpty=(aH b x y==0):=by
 show(if aH b x y=0 then[] else _).isEmpty=_
 split
 ·rename_i h;rw[h];rfl
 ·rename_i h;simp[h]
theorem b0 (b:List Nat)(x y d:Int):tS b x y d=((aH b (x - d) (y - (1 - d)) != 0) || (aH b (x+d) (y+(1 - d)) != 0)):=by
 unfold tS vD zI
 rw[OW,Wd,Wd]
 cases h1:(aH b (x - d) (y - (1 - d))==0) <;> cases h2:(aH b (x+d) (y+(1 - d))==0) <;> simp only[bne,h1,h2] <;> rfl
def Ff (b:List Nat)(p:OZ):Nat->List Nat->List Nat
 | _,[]=>[]
 | i,x::v=>if aH b (p.cell (i:Nat)).1 (p.cell (i:Nat)).2=0 then x::Ff b p (i+1) v else Ff b p (i+1) v
theorem Yf (b:List Nat)(p:OZ):∀(v:List Nat) (i:Nat),Ff b p i v=((bA v.length).filter λj=>aH b (p.cell ((i+j:Nat):Int)).1 (p.cell ((i+j:Nat):Int)).2==0).map λj=>v.getD j 0
 | [],i=>rfl
 | x::v,i=>by
  have ih:=Yf b p v (i+1)
  have e2:((bA v.length).map Z3).filter (λj=>aH b (p.cell ((i+j:Nat):Int)).1 (p.cell ((i+j:Nat):Int)).2==0)=((bA v.length).filter λj=>aH b (p.cell ((i+1+j:Nat):Int)).1 (p.cell ((i+1+j:Nat):Int)).2==0).map Z3:=by
   rw[kM]
   congr 1
   apply mN
   intro j _
   show(aH b (p.cell ((i+(j+1):Nat):Int)).1 (p.cell ((i+(j+1):Nat):Int)).2==0)=_
   rw[show i+(j+1)=i+1+j by omega]
  have e3:(((bA v.length).filter λj=>aH b (p.cell ((i+1+j:Nat):Int)).1 (p.cell ((i+1+j:Nat):Int)).2==0).map Z3).map (λj=>(x::v).getD j 0)=Ff b p (i+1) v:=by
   rw[ih,bR]
   rfl
  rw[cM,Uo]
  unfold Ff
  by_cases h:aH b (p.cell (i:Nat)).1 (p.cell (i:Nat)).2=0
  ·rw[if_pos h,iJ (by rw[Vg,h];rfl),aJ,e2,e3]
   rfl
  ·rw[if_neg h,kI (by rw[Vg,beq_iff_eq];exact h),e2,e3]
theorem BV (b:List Nat)(p:OZ):∀(r v:List Nat) (i:Nat) (rack:List Nat),Paired (λx c=>x=x) v r->(∀c∈r,yE c)->(∀j,j < r.length->(aH b (p.cell ((i+j:Nat):Int)).1 (p.cell ((i+j:Nat):Int)).2≠0->aQ (aH b (p.cell ((i+j:Nat):Int)).1 (p.cell ((i+j:Nat):Int)).2)=r.getD j 0/\v.getD j 0=aH b (p.cell ((i+j:Nat):Int)).1 (p.cell ((i+j:Nat):Int)).2)/\(v.getD j 0=r.getD j 0\/v.getD j 0=r.getD j 0+32))->fG rack (Ff b p i v)=true->v∈YL b p i r rack
 | [],_,i,rack,.nil,_,_,_=>cP.mpr rfl
 | c::r,_,i,rack,.cons (a:=x) (l₁:=v) _ hp,hc,h,ht=>by
  have hcc:=hc c (aT ..)
  have hc2:=λa ha=>hc a (aN _ ha)
  have h0:=h 0 (by simp)
  rw[Vg] at h0
  have h0:(aH b (p.cell (i:Nat)).1 (p.cell (i:Nat)).2≠0->aQ (aH b (p.cell (i:Nat)).1 (p.cell (i:Nat)).2)=c/\x=aH b (p.cell (i:Nat)).1 (p.cell (i:Nat)).2)/\(x=c\/x=c+32):=h0
  have hn:∀j,j < r.length->(aH b (p.cell ((i+1+j:Nat):Int)).1 (p.cell ((i+1+j:Nat):Int)).2≠0->aQ (aH b (p.cell ((i+1+j:Nat):Int)).1 (p.cell ((i+1+j:Nat):Int)).2)=r.getD j 0/\v.getD j 0=aH b (p.cell ((i+1+j:Nat):Int)).1 (p.cell ((i+1+j:Nat):Int)).2)/\(v.getD j 0=r.getD j 0\/v.getD j 0=r.getD j 0+32):=λj hj=>by
   have:=h (j+1) (by simpa using hj)
   rw[show i+(j+1)=i+1+j by omega] at this
   exact this
  unfold Ff at ht
  unfold YL
  dsimp only
  by_cases hz:aH b (p.cell (i:Nat)).1 (p.cell (i:Nat)).2=0
  ·rw[if_pos hz] at ht
   rw[if_neg (by simpa using hz)]
   unfold fG at ht
   rw[bH] at ht
   unfold yE at hcc
   rcases h0.2 with e | e
   ·have et:eT x=c:=by unfold eT;rw[if_neg (by omega),e]
    rw[et] at ht
    apply iG
    rw[if_pos ht.1, <-e]
    exact bE.mpr ⟨v,e ▸ BV b p r v (i+1) _ hp hc2 hn ht.2,rfl⟩
   ·have et:eT x=63:=by unfold eT;rw[if_pos (by omega)]
    rw[et] at ht
    apply dF
    rw[if_pos ht.1, <-e]
    exact bE.mpr ⟨v,BV b p r v (i+1) _ hp hc2 hn ht.2,rfl⟩
  ·rw[if_neg hz] at ht
   rw[if_pos hz,if_pos (h0.1 hz).1]
   refine bE.mpr ⟨v,BV b p r v (i+1) _ hp hc2 hn ht,?_⟩
   rw[<- (h0.1 hz).2]
theorem WJ {α β:Type}{F:α->β->Prop}(hF:∀a b,F a b):∀{a:List α} {b:List β},a.length=b.length->Paired F a b
 | [],[],_=>.nil
 | [],_::_,h=>by simp at h
 | _::_,[],h=>by simp at h
 | x::a,y::b,h=>.cons (hF x y) (WJ hF (by simpa using h))
structure Rh (s:pN)(x y d:Int)(v rk:List Nat):Prop where
 fits:lV s.board x y d v=true
 takes:fG rk ((cE s.board x y d v.length).map λi=>v.getD i 0)=true
 touch:nY s.board x y d v=true
 known:gS s v=true
theorem XC {s:pN}{x y d:Int}{v rk:List Nat}(h:0<=rC s x y d v rk):Rh s x y d v rk:=by
 have tr:∀{x:Bool},¬x=false->x=true:=λ{x} h=>by cases x <;> simp at h ⊢
 unfold rC at h
 by_cases c1:lV s.board x y d v=false
 ·rw[if_pos c1] at h;omega
 rw[if_neg c1] at h
 by_cases c2:fG rk ((cE s.board x y d v.length).map λi=>v.getD i 0)=false
 ·rw[if_pos c2] at h;omega
 rw[if_neg c2] at h
 by_cases c3:nY s.board x y d v=false
 ·rw[if_pos c3] at h;omega
 rw[if_neg c3] at h
 by_cases c4:(gS s v&&(gG s.board x y d v).all λl=>gS s l)=false
 ·rw[if_pos c4] at h;omega
 exact⟨tr c1,tr c2,tr c3,(bH _ _ ▸ tr c4).1⟩
theorem Vl {u:List Nat}{f:Nat->Int×Int}{q:Nat×(Int×Int)}:q∈(u.zipIdx.map λz=>(z.1,f z.2))↔∃i,i < u.length/\q=(u.getD i 0,f i):=by
 rw[bE]
 constructor
 ·rintro⟨⟨a,i⟩,h,rfl⟩
  have:=Ga.mp h
  obtain⟨h1,h2⟩:=bL.mp this
  refine⟨i,h1,?_⟩
  rw[aF,this];rfl
 ·rintro⟨i,hi,rfl⟩
  refine⟨(u.getD i 0,i),Ga.mpr ?_,rfl⟩
  rw[aF,aE hi];rfl
theorem Yl {s:pN}{x y d:Int}{v rk:List Nat}(hd:d=0\/d=1)(h0:kZ x y=true)(hw:TY s.words)(P:Rh s x y d v rk):r0 s.board.toArray (s.board.all λc=>c==0) (dR x y d (v.map aQ))=true:=by
 have ul:(v.map aQ).length=v.length:=aA _
 have fits:=P.fits
 unfold lV at fits
 simp only[bH,decide_eq_true_eq] at fits
 obtain⟨⟨⟨⟨f1,f2⟩,f3,f4⟩,f5⟩,f6⟩:=fits
 have hon:=Eg hd h0 f2
 have hw0:(dR x y d (v.map aQ)).word=v.map aQ:=rfl
 have hdn:(dR x y d (v.map aQ)).down=(d==1):=rfl
 unfold r0
 simp only[j7,CT,hw0,ul,hdn]
 have hu:∀i,i < v.length->(v.map aQ).getD i 0=aQ (v.getD i 0):=λi hi=>(Ot rfl hi).symm
 have hmemI:∀(i:Nat),i < v.length->((v.map aQ).getD i 0,bQ x y d i)∈(v.map aQ).zipIdx.map λz=>(z.1,bQ x y d (z.2:Nat)):=λi hi=>(Vl (u:=v.map aQ) (f:=λi=>bQ x y d (i:Nat))).mpr ⟨i,by omega,rfl⟩
 simp only[bH]
 refine⟨f2,f3,f4,?_,?_,?_⟩
 ·rw[cN]
  intro q hq
  obtain⟨i,hi,rfl⟩:=(Vl (u:=v.map aQ) (f:=λi=>bQ x y d (i:Nat))).mp hq
  rw[ul] at hi
  have:=cN.mp f5 i (bM.mpr hi)
  rw[dP,beq_iff_eq,beq_iff_eq] at this
  rw[dP,beq_iff_eq,beq_iff_eq,hu i hi]
  rcases this with e | e
  ·exact .inl e
  ·right
   have e:aH s.board (bQ x y d i).1 (bQ x y d i).2=v.getD i 0:=e
   rw[e]
 ·rw[jO]
  obtain⟨i,hi⟩:=List.exists_mem_of_length_pos f6
  obtain⟨i1,i2⟩:=kQ.mp hi
  exact⟨_,hmemI i i1,beq_iff_eq.mpr i2⟩
 ·have ht:=P.touch
  unfold nY at ht
  cases ha:(s.board.all λc=>c==0) with
  | true=>
   rw[ha,if_pos rfl] at ht
   rw[if_pos rfl,jO]
   unfold zU at ht
   obtain⟨i,hi,e⟩:=jO.mp ht
   rw[bH,decide_eq_true_eq,decide_eq_true_eq] at e
   exact⟨_,hmemI i (bM.mp hi),beq_iff_eq.mpr (W4 e.1 e.2)⟩
  | false=>
   rw[ha,if_neg (by simp),dP,SU,decide_eq_true_eq] at ht
   rw[if_neg (by simp),jO]
   rcases ht with h | ⟨i,hi,hs⟩
   ·have hex:∃i,i < v.length/\under s.board x y d i≠0:=by
     apply lF
     intro hn
     have hall:cE s.board x y d v.length=bA v.length:=by
      unfold cE
      apply RN.mpr
      intro i hi
      rw[beq_iff_eq]
      apply lF
      intro h0
      exact hn ⟨i,bM.mp hi,h0⟩
     rw[hall,cR] at h
     omega
    obtain⟨i,hi,h0⟩:=hex
    refine⟨_,hmemI i hi,?_⟩
    rw[dP]
    left
    have h0:¬aH s.board (bQ x y d i).1 (bQ x y d i).2=0:=h0
    simpa using h0
   ·refine⟨_,hmemI i (kQ.mp hi).1,?_⟩
    rw[dP]
    right
    rw[b0] at hs
    rcases hd with rfl | rfl
    ·simpa using hs
    ·simpa using hs
theorem Bu {s:pN}{rk:List Nat}{q:OZ}:q∈kL s rk↔∃(down:Bool) (k:Nat) (w v:List Nat),k < 225/\w∈s.words/\r0 s.board.toArray (s.board.all λc=>c==0) ⟨((k % 15:Nat):Int),((k / 15:Nat):Int),down,w⟩=true/\v∈YL s.board ⟨((k % 15:Nat):Int),((k / 15:Nat):Int),down,w⟩ 0 w rk/\q=⟨((k % 15:Nat):Int),((k / 15:Nat):Int),down,v⟩:=by
 unfold kL
 dsimp only
 rw[jN]
 constructor
 ·rintro⟨down,_,h⟩
  obtain⟨k,hk,h⟩:=jN.mp h
  obtain⟨w,hw,h⟩:=jN.mp h
  split at h
  ·rename_i hc
   obtain⟨v,hv,rfl⟩:=bE.mp h
   exact⟨down,k,w,v,bM.mp hk,hw,hc,hv,rfl⟩
  ·simp at h
 ·rintro⟨down,k,w,v,hk,hw,hc,hv,rfl⟩
  refine⟨down,by cases down <;> simp,jN.mpr ⟨k,bM.mpr hk,jN.mpr ⟨w,hw,?_⟩⟩⟩
  rw[if_pos hc]
  exact bE.mpr ⟨v,hv,rfl⟩
theorem Wo {s:pN}{x y d:Int}{v rk:List Nat}(hd:d=0\/d=1)(h0:kZ x y=true)(hw:TY s.words)(P:Rh s x y d v rk):dR x y d v∈kL s rk:=by
 have ul:(v.map aQ).length=v.length:=aA _
 have hmem:v.map aQ∈s.words:=aR.mp P.known
 obtain⟨w1,w2,w3⟩:=hw.each _ hmem
 have hon:=zO.mp h0
 have ex:(((x+15 * y).toNat % 15:Nat):Int)=x:=by omega
 have ey:(((x+15 * y).toNat / 15:Nat):Int)=y:=by omega
 refine Bu.mpr ⟨d==1,(x+15 * y).toNat,v.map aQ,v,by omega,hmem,?_,?_,?_⟩
 ·rw[ex,ey]
  exact Yl hd h0 hw P
 ·rw[ex,ey]
  show v∈YL s.board (dR x y d (v.map aQ)) 0 (v.map aQ) rk
  have fits:=P.fits
  unfold lV at fits
  simp only[bH,decide_eq_true_eq] at fits
  obtain⟨⟨⟨⟨f1,f2⟩,f3,f4⟩,f5⟩,f6⟩:=fits
  refine BV _ _ _ _ _ _ (WJ (λ_ _=>rfl) ul.symm) w3 (λj hj=> ?_) ?_
  ·rw[ul] at hj
   rw[YZ,CT]
   have hup:aQ (v.getD j 0)=(v.map aQ).getD j 0:=Ot rfl hj
   refine⟨λh=> ?_,?_⟩
   ·have:=cN.mp f5 j (bM.mpr hj)
    rw[dP,beq_iff_eq,beq_iff_eq] at this
    have e:aH s.board (bQ x y d j).1 (bQ x y d j).2=v.getD j 0:=this.resolve_left h
    rw[e]
    exact⟨hup,rfl⟩
   ·rw[<-hup]
    exact Am (by rw[hup];exact w3 _ (sR (by omega)))
  ·rw[Yf]
   have e:((bA v.length).filter λj=>aH s.board ((dR x y d (v.map aQ)).cell ((0+j:Nat):Int)).1 ((dR x y d (v.map aQ)).cell ((0+j:Nat):Int)).2==0)=cE s.board x y d v.length:=by
    unfold cE
    apply mN
    intro j _
    rw[YZ,CT]
    rfl
   rw[e]
   exact P.takes
 ·rw[ex,ey];rfl
theorem Mg {s:pN}{rk:List Nat}{q:OZ}(h:q∈kL s rk):∃x y d v,q=dR x y d v/\kZ x y=true/\(d=0\/d=1):=by
 obtain⟨down,k,w,v,hk,_,_,_,rfl⟩:=Bu.mp h
 refine⟨((k % 15:Nat):Int),((k / 15:Nat):Int),if down=true then 1 else 0,v,?_,zO.mpr ⟨by omega,by omega,by omega,by omega⟩,by cases down <;> simp⟩
 cases down <;> rfl
section
open Sz32 (St Play sooner laid)
theorem Sv {m d:Int}(hm:0<=m/\m < 15)(hd:d=0\/d=1):(m,d)∈qO:=by
 unfold qO
 rcases hd with rfl | rfl
 ·exact iG _ (bE.mpr ⟨m.toNat,bM.mpr (by omega),by rw[show((m.toNat:Nat):Int)=m by omega]⟩)
 ·exact dF _ (bE.mpr ⟨m.toNat,bM.mpr (by omega),by rw[show((m.toNat:Nat):Int)=m by omega]⟩)
theorem Cp {b:List Nat}{ws:List (List Nat)}{rk:List Nat}{ks:List Nat->List Nat}{c:wW}:c∈vW b ws rk ks↔c.1∈qO/\c.2∈rF b ws rk ks c.1.1 c.1.2 15:=by
 unfold vW YB
 rw[gM (by unfold qO;simp),jN]
 constructor
 ·rintro⟨md,h1,h2⟩
  obtain⟨c',h3,rfl⟩:=bE.mp h2
  exact⟨h1,h3⟩
 ·rintro⟨h1,h2⟩
  exact⟨c.1,h1,bE.mpr ⟨c.2,h2,rfl⟩⟩
theorem j9 {x y d:Int}(hd:d=0\/d=1)(h:kZ x y=true):∃(m:Int) (st:Nat),(0<=m/\m < 15)/\st < 15/\bB m d st=(x,y):=by
 have h:=zO.mp h
 rcases hd with rfl | rfl
 ·refine⟨y,x.toNat,⟨by omega,by omega⟩,by omega,?_⟩
  unfold bB bQ
  ext <;> simp <;> omega
 ·refine⟨x,y.toNat,⟨by omega,by omega⟩,by omega,?_⟩
  unfold bB bQ
  ext <;> simp <;> omega
theorem Xf {m d:Int}(hm:0<=m/\m < 15)(hd:d=0\/d=1){st:Nat}(hs:st < 15):kZ (bB m d st).1 (bB m d st).2=true:=by
 rw[zO]
 unfold bB bQ
 rcases hd with rfl | rfl <;> simp <;> omega
def rA (c:wW)(t:List Nat):Play:=dR c.x c.y c.1.2 t
theorem WZ {x y:Int}{a b:List Int}(h:x < y):HT.lexLt (x::a) (y::b)=true:=by
 have n:¬x=y:=by omega
 simp[HT.lexLt,n,h]
theorem LN {x:Int}{a b:List Int}:HT.lexLt (x::a) (x::b)=HT.lexLt a b:=by simp[HT.lexLt]
theorem SN:∀(a b:List Nat),qP a b=true->HT.lexLt (a.map cF) (b.map cF)=true
 | [],[],h=>by simp[qP] at h
 | [],_::_,_=>rfl
 | _::_,[],h=>by simp[qP] at h
 | x::a,y::b,h=>by
  unfold qP at h
  rw[dP,bH,decide_eq_true_eq,beq_iff_eq] at h
  rw[aJ,aJ]
  rcases h with h | ⟨rfl,h⟩
  ·exact WZ (Int.ofNat_lt.mpr h)
  ·rw[LN];exact SN a b h
section
variable {b:List Nat}{ws:List (List Nat)}{rk:List Nat}{ks:List Nat->List Nat}
structure O8 (b:List Nat)(ws:List (List Nat))(rk:List Nat)(c:wW)(t:List Nat):Prop where
 up:t.map aQ=c.2.2
 d:c.1.2=0\/c.1.2=1
 on:kZ c.x c.y=true
 cnt:laid ⟨ws,b⟩ (rA c t) rk=jY b c.1.2 (dB c.x c.y c.1.2 t.length) t
 parts:Rh ⟨ws,b⟩ c.x c.y c.1.2 t rk
theorem OK (hw:TY ws)(hk:wV ws ks){c:wW}{t:List Nat}(h:c∈vW b ws rk ks)(hT:YK b rk c t):O8 b ws rk c t:=by
 obtain⟨h1,h2⟩:=Cp.mp h
 obtain⟨⟨m,d⟩,st,u⟩:=c
 obtain⟨hm,hd⟩:=Py h1
 obtain⟨e1,e2⟩:=Tx hw hm hd hk h2 hT.2
 have hst:=((YA hk).mp h2).1
 have hon:=Xf hm hd hst
 have e3:=OB ⟨ws,b⟩ (bB m d st).1 (bB m d st).2 d t rk hd hon
 have hpos:=Cm b d (dB (bB m d st).1 (bB m d st).2 d t.length) t
 exact⟨e1,hd,hon,e3.trans e2,XC (show 0<=rC ⟨ws,b⟩ (bB m d st).1 (bB m d st).2 d t rk from e2.symm ▸ hpos)⟩
theorem Tw (hw:TY ws)(hk:wV ws ks){c:wW}{t:List Nat}(h:c∈vW b ws rk ks)(hT:YK b rk c t):rA c t∈kL ⟨ws,b⟩ rk/\0<=laid ⟨ws,b⟩ (rA c t) rk:=by
 have ok:=OK hw hk h hT
 exact⟨Wo ok.d ok.on hw ok.parts,by rw[ok.cnt];exact Cm ..⟩
theorem Kd (hw:TY ws)(hk:wV ws ks){c c':wW}{t t':List Nat}(h:c∈vW b ws rk ks)(hT:YK b rk c t)(h':c'∈vW b ws rk ks)(hT':YK b rk c' t')(hb:vS ⟨ws,b⟩ rk (rA c' t') (rA c t)):zM (VZ b c' t') (VZ b c t)=true:=by
 have ok:=OK hw hk h hT
 have ok':=OK hw hk h' hT'
 unfold vS at hb
 rw[ok.cnt,ok'.cnt] at hb
 have er:∀(c:wW) (t:List Nat),VZ b c t=([-jY b c.1.2 (dB c.x c.y c.1.2 t.length) t,c.1.2,c.y,c.x],t.map cF):=λc t=>rfl
 rw[er,er]
 unfold zM
 dsimp only
 generalize jY b c.1.2 (dB c.x c.y c.1.2 t.length) t=n at hb ⊢
 generalize jY b c'.1.2 (dB c'.x c'.y c'.1.2 t'.length) t'=n' at hb ⊢
 have hd:=ok.d
 have hd':=ok'.d
 rcases hb with hb | ⟨hb,hs⟩
 ·rw[if_neg (λz=>by injection z with z;omega)]
  exact WZ (by omega)
 ·subst hb
  unfold OR rA dR at hs
  dsimp only at hs
  by_cases e1:c'.1.2=c.1.2
  ·rw[e1] at hs
   rw[if_neg (by simp)] at hs
   by_cases e2:c'.y=c.y
   ·rw[if_neg (by simpa using e2)] at hs
    by_cases e3:c'.x=c.x
    ·rw[if_neg (by simpa using e3)] at hs
     rw[e1,e2,e3,if_pos rfl]
     exact SN _ _ hs
    ·rw[if_pos e3,decide_eq_true_eq] at hs
     rw[if_neg (λz=>by simp at z;exact e3 z.2.2)]
     rw[e1,e2,LN,LN,LN]
     exact WZ hs
   ·rw[if_pos e2,decide_eq_true_eq] at hs
    rw[if_neg (λz=>by simp at z;exact e2 z.2.1)]
    rw[e1,LN,LN]
    exact WZ hs
  ·have:c'.1.2=0/\c.1.2=1:=by
    rcases hd with h | h <;> rcases hd' with h' | h'
    ·exact absurd (h'.trans h.symm) e1
    ·rw[h,h'] at hs;simp at hs
    ·exact⟨h',h⟩
    ·exact absurd (h'.trans h.symm) e1
   rw[if_neg (λz=>by simp at z;exact e1 z.1)]
   rw[this.1,this.2,LN]
   exact WZ (by decide)
theorem Bi (hw:TY ws)(hk:wV ws ks){q:Play}(hq:q∈kL ⟨ws,b⟩ rk)(h0:0<=laid ⟨ws,b⟩ q rk):∃c∈vW b ws rk ks,∀t,YK b rk c t->q=rA c t\/vS ⟨ws,b⟩ rk (rA c t) q:=by
 obtain⟨x,y,d,v,rfl,hon,hd⟩:=Mg hq
 obtain⟨m,st,hm,hst,e⟩:=j9 hd hon
 have ex:x=(bB m d st).1:=by rw[e]
 have ey:y=(bB m d st).2:=by rw[e]
 rw[ex,ey] at h0 hon ⊢
 have e1:=OB ⟨ws,b⟩ (bB m d st).1 (bB m d st).2 d v rk hd hon
 rw[e1] at h0
 obtain⟨c1,c2,c3⟩:=Td hw hm hd hk hst h0
 have hc:(((m,d),(st,v.map aQ)):wW)∈vW b ws rk ks:=Cp.mpr ⟨Sv hm hd,c1⟩
 refine⟨_,hc,λt hT=> ?_⟩
 have ok:=OK hw hk hc hT
 have tl:t.length=v.length:=hT.1.trans (aA _)
 rcases c3 t hT.2 with z | z
 ·left
  rw[z];rfl
 ·right
  unfold vS
  rw[ok.cnt,e1,c2]
  have ec:jY b d (dB (bB m d st).1 (bB m d st).2 d t.length) t=jY b d (dB (bB m d st).1 (bB m d st).2 d v.length) t:=by rw[tl]
  show _ < jY b d (dB (bB m d st).1 (bB m d st).2 d t.length) t\/(_=jY b d (dB (bB m d st).1 (bB m d st).2 d t.length) t/\_)
  rw[ec]
  rcases z with z | ⟨z,z'⟩
  ·exact .inl z
  ·refine .inr ⟨z,?_⟩
   unfold OR rA dR wW.x wW.y
   dsimp only
   rw[if_neg (by simp),if_neg (by simp),if_neg (by simp)]
   exact z'
theorem Ue (hw:TY ws)(hk:wV ws ks)(h:vW b ws rk ks=[]):wQ ⟨ws,b⟩ rk=none:=by
 cases e:wQ ⟨ws,b⟩ rk with
 | none=>rfl
 | some p=>
  have hp:=Fs e
  have hp:HK ⟨ws,b⟩ rk (kL ⟨ws,b⟩ rk) p:=hp
  obtain⟨c,hc,_⟩:=Bi (ks:=ks) hw hk hp.1 hp.2.1
  rw[h] at hc
  simp at hc
theorem Uc (hw:TY ws)(hk:wV ws ks){c:wW}{t:List Nat}(h:Ze b rk (vW b ws rk ks) c t):wQ ⟨ws,b⟩ rk=some (rA c t):=by
 obtain⟨h1,h2,h3⟩:=h
 obtain⟨p1,p2⟩:=Tw hw hk h1 h2
 have hbest:HK ⟨ws,b⟩ rk (kL ⟨ws,b⟩ rk) (rA c t):=by
  refine⟨p1,p2,λq hq h0=> ?_⟩
  obtain⟨c',hc',hall⟩:=Bi (ks:=ks) hw hk hq h0
  obtain⟨t',hT',hr⟩:=h3 c' hc'
  have hq':=hall t' hT'
  have hle:rA c' t'=rA c t\/vS ⟨ws,b⟩ rk (rA c t) (rA c' t'):=by
   rcases YE ⟨ws,b⟩ rk (rA c t) (rA c' t') with e | e | e
   ·exact .inl e.symm
   ·exact .inr e
   ·rw[Kd hw hk h1 h2 hc' hT' e] at hr
    cases hr
  rcases hq' with e | e
  ·rw[e];exact hle
  ·rcases hle with e' | e'
   ·rw[e'] at e;exact .inr e
   ·exact .inr (CU e' e)
 cases e:wQ ⟨ws,b⟩ rk with
 | none=>
  have hp:=Fs e
  have hp:∀q∈kL ⟨ws,b⟩ rk,laid ⟨ws,b⟩ q rk < 0:=hp
  have:=hp _ p1
  omega
 | some p=>
  have hp:=Fs e
  have hp:HK ⟨ws,b⟩ rk (kL ⟨ws,b⟩ rk) p:=hp
  rw[Nn hp hbest hp.1 p1]
end
end
section
open Sz32 (Play laid)
def HB (s:pN)(rk:List Nat):List Int:=if nD (rk.map cF)=false then[-1] else match wQ s rk with
 | none=>[-6]
 | some p=>laid s p rk::p.x::p.y::(if p.down=true then 1 else 0)::(p.word.length:Int)::((IT p.word++cU 15 0).take 15).map λ(b:UInt8)=>(b.toNat:Int)
theorem Sf (s:pN){rk:List Int}(hk:Ro rk)(hl:rk.length<=7):dC s (eU [[5],rk])=(s,HB s (hZ rk)):=by
 show(let y':=tL s (.best (dY rk) (rk.length:Int));(y'.1,y'.2.value::(y'.2.numbers++y'.2.bytes.map λ(b:UInt8)=>(b.toNat:Int))))=_
 have hr:BI (dY rk)=nD ((hZ rk).map cF):=by
  unfold BI
  rw[xN hk,Pq,e7 (hZ rk) (by rw[mG];exact hl),mG]
 unfold tL HB
 dsimp only
 rw[xN hk,hr]
 by_cases c:nD ((hZ rk).map cF)=false
 ·rw[if_pos c,if_pos (.inr (.inr c))];rfl
 ·rw[if_neg c,if_neg (λz=>by rcases z with z | z | z;omega;omega;exact c z)]
  cases wQ s (hZ rk) <;> rfl
theorem Zw {t:List Nat}(h:t.length<=15)(hb:∀c∈t,c<=255):((IT t++cU 15 0).take 15).map (λ(b:UInt8)=>(b.toNat:Int))=t.map cF++cU (15 - t.length) 0:=by
 unfold IT
 rw[List.take_append,aA,gM (by rw[aA];exact h),List.take_replicate,cC,bR,List.map_replicate,LZ (by omega)]
 congr 1
 apply dD
 intro c hc
 show((Uz c).toNat:Int)=cF c
 rw[SY]
 have:=hb c hc
 rw[Nat.mod_eq_of_lt (by omega)]
 rfl
section
variable {b:List Nat}{ws:List (List Nat)}{rk:List Nat}{ks:List Nat->List Nat}
theorem Ke (hw:TY ws)(hk:wV ws ks)(hr:nD (rk.map cF)=true){c:wW}{t:List Nat}(h:Ze b rk (vW b ws rk ks) c t):
  t.length<=15/\HB ⟨ws,b⟩ rk=gT ⟨ws,b⟩ c.x c.y c.1.2 t rk::c.x::c.y::c.1.2::(t.length:Int)::(t.map cF++cU (15 - t.length) 0):=by
 have ok:=OK hw hk h.1 h.2.1
 have hm:t.map aQ∈ws:=aR.mp ok.parts.known
 obtain⟨w1,w2,w3⟩:=hw.each _ hm
 rw[aA] at w1 w2
 have hlet:∀c∈t,bI c=true:=λc hc=>by
  have:=w3 _ (Zn hc)
  rw[gR]
  unfold aQ at this
  split at this <;> omega
 have hp:gQ c.x c.y c.1.2 t rk=true:=by
  unfold gQ
  rw[CV,ok.on,hr,cN.mpr hlet,decide_eq_true (show 1<=t.length by omega),decide_eq_true w2]
  rcases ok.d with e | e <;> rw[e] <;> rfl
 refine⟨w2,?_⟩
 unfold HB
 rw[if_neg (by rw[hr];exact cO),Uc hw hk h]
 dsimp only
 have e0:gT ⟨ws,b⟩ c.x c.y c.1.2 t rk=rC ⟨ws,b⟩ c.x c.y c.1.2 t rk:=by
  unfold gT
  rw[if_neg (by rw[hp];exact cO)]
 rw[e0]
 have e1:laid ⟨ws,b⟩ (rA c t) rk=rC ⟨ws,b⟩ c.x c.y c.1.2 t rk:=OB ⟨ws,b⟩ c.x c.y c.1.2 t rk ok.d ok.on
 rw[e1]
 have e2:(if(rA c t).down=true then(1:Int) else 0)=c.1.2:=by
  unfold rA dR
  rcases ok.d with e | e <;> rw[e] <;> rfl
 rw[e2]
 show _::c.x::c.y::_::(t.length:Int)::((IT t++cU 15 0).take 15).map (λ(b:UInt8)=>(b.toNat:Int))=_
 rw[Zw w2 λa ha=>by have:=gR.mp (hlet a ha);omega]
theorem Ft (hw:TY ws)(hk:wV ws ks)(hr:nD (rk.map cF)=true)(h:vW b ws rk ks=[]):HB ⟨ws,b⟩ rk=[-6]:=by
 unfold HB
 rw[if_neg (by rw[hr];exact cO),Ue hw hk h]
end
theorem iK.rel {Rl:Hp->Hp->Prop}(R:RC Rl){C:Addr}{H H':Hp}{g:Addr}{ws:List (List Nat)}{b:List Nat}{dx dw sq:Addr}(h:iK C H g ws b dx dw sq)(e:Rl H H'):iK C H' g ws b dx dw sq:=⟨R.k e h.at_ rfl,R.k e h.ws rfl,R.k e h.sqs rfl,h.ok⟩
section
variable {P:bS}{w:cY}{K:PySem.W.Frag}{mg:Str->Option aC}{A:Ad}{F:Fd}
theorem sG:bV ["self","rack","best","length"] ["self","rack"] (defScope AO):=⟨rfl,rfl,rfl,by decide+kernel,rfl,by decide+kernel,by decide+kernel⟩
def MV (K:PySem.W.Frag)(CG PT:Addr):Sp:=λvs H Q _=>∃(g dgx dw sq ar:Addr) (ws:List (List Nat)) (b rk:List Nat),vs=[.ref g,.ref ar]/\iK CG H g ws b dgx dw sq/\TY ws/\rk.length<=7/\H ar=some (.lst (cT rk))/\RB H PT/\
 ∀H' q,Tk PT H H'->H q=none->H' q=some (.lst ((HB ⟨ws,b⟩ rk).map V.int))->Q (.ref q) H'
theorem ZF {K:PySem.W.Frag}{CG PT:Addr}{H:Hp}{Q:VK}{E:XK}{g dgx dw sq ar:Addr}{ws:List (List Nat)}{b rk:List Nat}(G:iK CG H g ws b dgx dw sq)(hw:TY ws)(hn:rk.length<=7)(ha:H ar=some (.lst (cT rk)))(t:RB H PT)
  (k:∀H' q,Tk PT H H'->H q=none->H' q=some (.lst ((HB ⟨ws,b⟩ rk).map V.int))->Q (.ref q) H'):MV K CG PT [.ref g,.ref ar] H Q E:=⟨g,dgx,dw,sq,ar,ws,b,rk,rfl,G,hw,hn,ha,t,k⟩
theorem NW (T:kR K mg A F):Ok P w K mg 11 A.jL F.jL ["self","rack"] (MV K A.cD A.tabP):=λbase bb=>by
 refine T.jL.F.ok sG (λvs H Q E h=> ?_) (λcdv Ar outer s H vs Q E hr h=> ?_)
 ·obtain⟨g,dgx,dw,sq,ar,ws,b,rk,rfl,_⟩:=h
  rfl
 ·obtain⟨g,dgx,dw,sq,ar,ws,b,rk,rfl,G,hw,hn,har,tb,k⟩:=h
  refine⟨_,(aO (gC (qK (gI (oF T.wI (WO T base bb) hr (aB (pv 1) aL)))) (aS (bU (gJ (aB (yW sC dS) aL)))) dN) (aO (dJ (i:=2) sG.nd rfl (cB rfl) (oF T.mU (WQ T base bb) hr (aB (bY (pv 0) rfl) (aB (bY (pv 0) rfl) (aB (pv 1) aL))))) (aO (gC (LC (Wx (pv 2))) (aS (bU (gJ (aB (yW sC dS) aL)))) dN) (aO (dJ (i:=3) sG.nd rfl (cB rfl) (eQ eR (by rfl) T.sV PySem.boot_len (aB (bY (pv 2) rfl) aL))) (aS (bU (eL GE (eL GE (gJ (aB (IL (pv 0) T.cD T.lT (zP T base bb) hr (aB (pv 2) aL)) (aB (bY (pv 2) rfl) (aB (bY (pv 2) rfl) (aB (bY (pv 2) rfl) (aB (pv 3) aL)))))) (bY (pv 2) rfl)) (eL Wy (gJ (aB dS aL)) (eL sN (fF rfl T.xQ) (pv 3)))))))))),?_⟩
  refine XI (!nD (rk.map cF)) (λR h=> ?_) (λH1 s1 c1=> ?_) (λH1 s1 c1=> ?_)
  ·simp_arith
   exact RP (l:=rk.map cF) (by rw[<-sT];exact dX.of har) (by rw[aA,aX];omega) λH1 s1=>h _ s1
  ·simp_arith [↓rQ]
   refine⟨by rw[aX];decide,λq hq=>k _ q (Sm.same (s1.trans (aZ.upd hq))) (s1.free hq) ?_⟩
   have e:HB ⟨ws,b⟩ rk=[-1]:=by unfold HB;rw[if_pos (Pr c1)]
   rw[aK,e];rfl
  have hrk:=Mr c1
  have G1:=G.same s1
  simp_arith only[↓eY,G1.at_,HO.ins.injEq,T.cD.cl,BA T,BB T,GQ,GR]
  refine⟨sq,dw,ar,ws,b,rk,rfl,dX.of G1.sqs,G.ok,G1.ws,hw,hn,s1 _ _ har,tb.same s1,λks H2 hk he t2=> ?_,λks H2 p dl aw c t hk t2 hb hp hp2 haw=> ?_⟩
  ·simp_arith [Vs, ↓rQ]
   have e:HB ⟨ws,b⟩ rk=[-6]:=Ft hw hk hrk he
   refine⟨by rw[aX];decide,λq hq=>k _ q ((Sm.same s1).trans (t2.trans (Sm.same (aZ.upd hq)))) (s1.free (t2.free hq)) ?_⟩
   rw[aK,e];rfl
  ·obtain⟨tl,ea⟩:=Ke hw hk hrk hb
   have R:=BZ A.tabP Sz Ta
   have G2:=G1.rel R t2
   have har2:H2 ar=some (.lst (cT rk)):=t2.k (s1 _ _ har) rfl
   have L2':Ur K A.aW H2 p c.x c.y c.1.2 t rk dl aw ar:=⟨hp2,dX.of haw,dX.of har2⟩
   simp_arith [Vs]
   simp_arith [↓eY,L2'.at_,G2.at_,HO.ins.injEq,T.aW.cl,qM T,qL T,qN T,rR T,sQ T,rT,rS,rV,tE,tF,lU,lE]
   rw[if_neg (by intro z;cases z)]
   refine⟨_,.inl (dX.of haw),?_⟩
   rw[fX]
   simp_arith [↓eY,L2'.at_,G2.at_, ↓rQ,HO.ins.injEq,T.aW.cl,qM T,qL T,qN T,rR T,sQ T,rT,rS,rV,tE,tF,lU,lE]
   refine⟨rfl,PM G2 L2' tl hn λH3 s3=> ?_⟩
   have L3:=L2'.same s3
   simp_arith [↓eY,L3.at_, ↓rQ,HO.ins.injEq,T.aW.cl,qM T,qL T,qN T,rR T,sQ T,rT,rS,rV,tE,tF,lU,lE]
   refine⟨by rw[aX];decide,λl1 hl1=> ?_⟩
   have s4:=aZ.upd (o:=.lst [V.int (gT ⟨ws,b⟩ c.x c.y c.1.2 t rk),.int c.x,.int c.y,.int c.1.2,.int t.length]) hl1
   have n4:(L2.upd H3 l1 (.lst [V.int (gT ⟨ws,b⟩ c.x c.y c.1.2 t rk),.int c.x,.int c.y,.int c.1.2,.int t.length])) l1=_:=aK
   generalize L2.upd H3 l1 (.lst [V.int (gT ⟨ws,b⟩ c.x c.y c.1.2 t rk),.int c.x,.int c.y,.int c.1.2,.int t.length])=H4 at s4 n4 ⊢
   have L4:=L3.same s4
   refine⟨_,_,_,L4.at_,T.aW.cl,rR T,_,rfl,l1,aw,_,_,rfl,rfl,n4,s4 _ _ (s3 _ _ haw),by rw[fX,aX];show 5+t.length<=_;omega,λl2 hl2=>⟨by rw[aX];decide,λl3 hl3=> ?_⟩⟩
   refine⟨l3,_,_,rfl,rfl,aK,by omega,by omega,by rw[aX];show 1 * _<=_;omega,λl4 hl4=> ?_⟩
   have s5:=aZ.upd (o:=.lst ([V.int (gT ⟨ws,b⟩ c.x c.y c.1.2 t rk),.int c.x,.int c.y,.int c.1.2,.int t.length]++cT t)) hl2
   have s6:=aZ.upd (o:=.lst [V.int 0]) hl3
   have s7:=aZ.upd (o:=.lst (cU (15 - (t.length:Int)).toNat [V.int 0]).flatten) hl4
   refine⟨l2,l4,_,_,rfl,rfl,s7 _ _ (s6 _ _ aK),aK,?_,λl5 hl5=> ?_⟩
   ·rw[L2.Qe,bZ,fX,aX]
    show 5+t.length+_ * 1<=_
    omega
   ·have s47:=((s3.trans s4).trans (s5.trans s6)).trans s7
    refine k _ l5 ((Sm.same s1).trans (t2.trans (Sm.same (s47.trans (aZ.upd hl5))))) (s1.free (t2.free (s47.free hl5))) ?_
    rw[aK,ea]
    have e1:(15 - (t.length:Int)).toNat=15 - t.length:=by omega
    rw[e1]
    have e2:∀n:Nat,(cU n [V.int 0]).flatten=(cU n (0:Int)).map V.int:=λn=>by
     induction n with
     | zero=>rfl
     | succ n ih=>rw[kT,kT,uV,aJ,ih];rfl
    rw[e2]
    show _=some (HO.lst ([_,_,_,_,_]++(t.map cF++cU (15 - t.length) 0).map V.int))
    rw[cC,sT]
    rfl
end
end
section
variable {ns:List Int}{n m:Nat}{c:List (List Int)}
theorem nc1 (h:NextCall ns n c m)(e:ns.getD n 0=1):c=[[1]]/\m=n+1:=by
 cases h with
 | clear e'=>exact⟨rfl,rfl⟩
 | word k e' _=>omega
 | score p kw kr e' hp _ _ _=>omega
 | best k e' _=>omega
 | board e'=>omega
theorem nc2 (h:NextCall ns n c m)(e:ns.getD n 0=2):∃k,vV ns (n+1) k/\c=[[2],rowOf ns (n+1) k]/\m=n+1+1+k:=by
 cases h with
 | clear e'=>omega
 | word k e' h=>exact⟨k,h,rfl,rfl⟩
 | score p kw kr e' hp _ _ _=>omega
 | best k e' _=>omega
 | board e'=>omega
theorem nc3 {p:Int}(hp:p=3\/p=4)(h:NextCall ns n c m)(e:ns.getD n 0=p):∃kw kr,n+1+3<=ns.length/\vV ns (n+1+3) kw/\vV ns (n+1+3+1+kw) kr/\
  c=[[p,ns.getD (n+1) 0,ns.getD (n+1+1) 0,ns.getD (n+1+2) 0],rowOf ns (n+1+3) kw,rowOf ns (n+1+3+1+kw) kr]/\m=n+1+3+1+kw+1+kr:=by
 cases h with
 | clear e'=>omega
 | word k e' h=>omega
 | score p' kw kr e' hp h1 h2 h3=>rw[e] at e';subst e';exact⟨kw,kr,h1,h2,h3,rfl,rfl⟩
 | best k e' _=>omega
 | board e'=>omega
theorem nc5 (h:NextCall ns n c m)(e:ns.getD n 0=5):∃k,vV ns (n+1) k/\c=[[5],rowOf ns (n+1) k]/\m=n+1+1+k:=by
 cases h with
 | clear e'=>omega
 | word k e' h=>omega
 | score p kw kr e' hp _ _ _=>omega
 | best k e' h=>exact⟨k,h,rfl,rfl⟩
 | board e'=>omega
theorem nc6 (h:NextCall ns n c m)(e1:¬ns.getD n 0=1)(e2:¬ns.getD n 0=2)(e3:¬ns.getD n 0=3)(e4:¬ns.getD n 0=4)(e5:¬ns.getD n 0=5):c=[[6]]/\m=n+1:=by
 cases h with
 | clear e'=>omega
 | word k e' h=>omega
 | score p kw kr e' hp _ _ _=>omega
 | best k e' h=>omega
 | board e'=>exact⟨rfl,rfl⟩
theorem U2 (h:NextCall ns n c m):n < m:=by
 cases h <;> omega
end
def Aw (K:PySem.W.Frag)(a q:Addr)(xs:List V):Prop:=a≠q\/∀H,dX K H a xs
theorem Aw.of {K:PySem.W.Frag}{H:Hp}{a q:Addr}{xs:List V}(h:dX K H a xs)(hn:H q=none):Aw K a q xs:=by
 rcases h with(h | ⟨o,h⟩) | h
 ·exact .inl (bJ h hn)
 ·exact .inl (bJ h hn)
 ·exact .inr λ_=>.inr h
theorem Aw.seq {K:PySem.W.Frag}{H H':Hp}{a q:Addr}{xs:List V}(w:Aw K a q xs)(e:mE q H H')(h:dX K H a xs):dX K H' a xs:=by
 rcases w with n | z
 ·exact e.seqL n h
 ·exact z H'
theorem vX.but {H H':Hp}{P g:Addr}{q:Str}{pos:Pos}{o:HO}(t:vX H P q pos)(e:mE g H H')(hg:H g=some o)(ho:Es o=true)(hx:∀f,o≠ .ext f):vX H' P q pos:=by
 obtain⟨ps,h1,h2⟩:=t
 refine⟨ps,e _ _ h1 (λz=> ?_),h2.imp id ?_⟩
 ·rw[z,hg] at h1;cases h1;cases ho
 ·rintro⟨c,h3,h4⟩
  exact⟨c,h3,e _ _ h4 λz=>by rw[z,hg] at h4;exact hx _ (cX h4)⟩
structure pJ (K:PySem.W.Frag)(CG CR PT:Addr)(H:Hp)(g dgx dw sq r a dx:Addr)(s:pN)(ns:List Int)(n:Nat):Prop where
 G:iK CG H g s.words s.board dgx dw sq
 W:TY s.words
 R:yB K CR H r a dx ns n
 A:Aw K a sq (ns.map V.int)
 t:RB H PT
section
variable {K:PySem.W.Frag}{CG CR PT:Addr}{H H':Hp}{g dgx dw sq r a dx:Addr}{s:pN}{ns:List Int}{n m:Nat}
theorem pJ.ne (S:pJ K CG CR PT H g dgx dw sq r a dx s ns n):r≠g:=eK S.R.at_ S.G.at_ (by
 intro z
 injection z with _ _ h
 unfold Bd XM at h
 injection h with h1
 injection h1 with h2
 exact absurd h2 (by decide))
theorem pJ.nd (S:pJ K CG CR PT H g dgx dw sq r a dx s ns n):r≠dw:=eK S.R.at_ S.G.ws (by intro z;cases z)
theorem pJ.nq (S:pJ K CG CR PT H g dgx dw sq r a dx s ns n):r≠sq:=eK S.R.at_ S.G.sqs (by intro z;cases z)
theorem Xv (C dx:Addr)(fs:List (Str×V)):∀f,HO.ins C dx fs≠ .ext f:=λf z=>by cases z
theorem pJ.same (S:pJ K CG CR PT H g dgx dw sq r a dx s ns n)(e:aZ H H'):pJ K CG CR PT H' g dgx dw sq r a dx s ns n:=⟨S.G.same e,S.W,S.R.same e,S.A,S.t.same e⟩
theorem pJ.sm (S:pJ K CG CR PT H g dgx dw sq r a dx s ns n)(e:Tk PT H H'):pJ K CG CR PT H' g dgx dw sq r a dx s ns n:=
 have R:=BZ PT Sz Ta
 ⟨S.G.rel R e,S.W,⟨R.k e S.R.at_ rfl,R.seq e S.R.sq,S.R.le,S.R.z⟩,S.A,e.tab S.t⟩
theorem pJ.read (S:pJ K CG CR PT H g dgx dw sq r a dx s ns n)(e:mE r H H')(R:yB K CR H' r a dx ns m):pJ K CG CR PT H' g dgx dw sq r a dx s ns m:=
 ⟨⟨e _ _ S.G.at_ S.ne.symm,e _ _ S.G.ws S.nd.symm,e _ _ S.G.sqs S.nq.symm,S.G.ok⟩,S.W,R,S.A,S.t.but e S.R.at_ rfl (Xv _ _ _)⟩
theorem pJ.words (S:pJ K CG CR PT H g dgx dw sq r a dx s ns n)(e:mE dw H H'){ws:List (List Nat)}(G:iK CG H' g ws s.board dgx dw sq)(W:TY ws):pJ K CG CR PT H' g dgx dw sq r a dx { s with words:=ws } ns n:=
 ⟨G,W,S.R.but e S.G.ws S.nd (λu=>⟨(by intro z;cases z),λq z=>by cases z⟩),S.A,S.t.but e S.G.ws rfl (λf z=>by cases z)⟩
theorem pJ.anew (S:pJ K CG CR PT H g dgx dw sq r a dx s ns n)(e:mE g H H'){dw' sq':Addr}(hq:H sq'=none)(G:iK CG H' g [] XS dgx dw' sq'):pJ K CG CR PT H' g dgx dw' sq' r a dx ⟨[],XS⟩ ns n:=
 ⟨G,⟨nM,by decide,λw h=>by cases h⟩,S.R.but e S.G.at_ S.ne (Xw _ _ _),Aw.of S.R.sq hq,S.t.but e S.G.at_ rfl (Xv _ _ _)⟩
theorem pJ.board (S:pJ K CG CR PT H g dgx dw sq r a dx s ns n)(e:mE sq H H'){b:List Nat}(G:iK CG H' g s.words b dgx dw sq):pJ K CG CR PT H' g dgx dw sq r a dx { s with board:=b } ns n:=
 ⟨G,S.W,⟨e _ _ S.R.at_ S.nq,S.A.seq e S.R.sq,S.R.le,S.R.z⟩,S.A,S.t.but e S.G.sqs rfl (λf z=>by cases z)⟩
theorem pJ.put (S:pJ K CG CR PT H g dgx dw sq r a dx s ns n){o:Addr}{xs ys:List V}(ho:H o=some (.lst xs))(no:o≠sq)(w:Aw K a o (ns.map V.int)):pJ K CG CR PT (L2.upd H o (.lst ys)) g dgx dw sq r a dx s ns n:=
 ⟨⟨by rw[aM (eK S.G.at_ ho (by intro z;cases z))];exact S.G.at_,by rw[aM (eK S.G.ws ho (by intro z;cases z))];exact S.G.ws,by rw[aM (fE no)];exact S.G.sqs,S.G.ok⟩,S.W,
  ⟨by rw[aM (eK S.R.at_ ho (by intro z;cases z))];exact S.R.at_,w.seq mE.upd S.R.sq,S.R.le,S.R.z⟩,S.A,S.t.put ho⟩
end
def O6 (H H':Hp)(sq sq':Addr):Prop:=∀e xs,H e=some (.lst xs)->e≠sq->H' e=some (.lst xs)/\e≠sq'
theorem Zs {ws:List (List Nat)}{l:List Nat}(W:TY ws)(h:¬(l.length < 2\/l.all bI=false))(hl:l.length<=15)(hc:ws.contains (l.map aQ)=false)(hn:¬4096<=ws.length):TY (l.map aQ::ws):=by
 have h1:¬l.length < 2:=λz=>h (.inl z)
 have h2:l.all bI=true:=by
  cases e:l.all bI with
  | true=>rfl
  | false=>exact absurd (.inr e) h
 refine⟨dU.mpr ⟨λz=> ?_,W.nd⟩,by rw[cM];omega,λw hw=> ?_⟩
 ·rw[aR.mpr z] at hc;cases hc
 ·rcases bN.mp hw with rfl | hw
  ·refine⟨by rw[aA];omega,by rw[aA];exact hl,λc hc=> ?_⟩
   obtain⟨c0,h0,rfl⟩:=bE.mp hc
   have:=gR.mp (cN.mp h2 c0 h0)
   unfold aQ
   split <;> omega
  ·exact W.each w hw
theorem ID {w:List Int}(h:Ro w):w.map V.int=cT (hZ w):=by
 unfold cT hZ
 rw[bR]
 apply dD
 intro z hz
 have:=h z hz
 show V.int z=V.int ((z.toNat:Nat):Int)
 congr 1
 omega
section
variable {P:bS}{w:cY}{K:PySem.W.Frag}{mg:Str->Option aC}{A:Ad}{F:Fd}
theorem FQ:bV ["game","reader","call"] ["game","reader"] (defScope JM):=⟨rfl,rfl,rfl,by decide+kernel,rfl,by decide+kernel,by decide+kernel⟩
def FL (K:PySem.W.Frag)(CG CR PT:Addr):Sp:=λvs H Q _=>∃(g dgx dw sq r a dx:Addr) (s:pN) (ns:List Int) (n m:Nat) (c:List (List Int)),vs=[.ref g,.ref r]/\pJ K CG CR PT H g dgx dw sq r a dx s ns n/\NextCall ns n c m/\n < ns.length/\m<=ns.length/\qQ gW c=true/\
 ∀H' dw' sq' q,pJ K CG CR PT H' g dgx dw' sq' r a dx (dC s (eU c)).1 ns m->O6 H H' sq sq'->H q=none->H' q=some (.lst ((dC s (eU c)).2.map V.int))->Q (.ref q) H'
theorem TN {K:PySem.W.Frag}{CG CR PT:Addr}{H:Hp}{Q:VK}{E:XK}{g dgx dw sq r a dx:Addr}{s:pN}{ns:List Int}{n m:Nat}{c:List (List Int)}(S:pJ K CG CR PT H g dgx dw sq r a dx s ns n)(hN:NextCall ns n c m)(hn:n < ns.length)(hm:m<=ns.length)(hc:qQ gW c=true)
  (k:∀H' dw' sq' q,pJ K CG CR PT H' g dgx dw' sq' r a dx (dC s (eU c)).1 ns m->O6 H H' sq sq'->H q=none->H' q=some (.lst ((dC s (eU c)).2.map V.int))->Q (.ref q) H'):FL K CG CR PT [.ref g,.ref r] H Q E:=⟨g,dgx,dw,sq,r,a,dx,s,ns,n,m,c,rfl,S,hN,hn,hm,hc,k⟩
theorem WR (T:kR K mg A F):Ok P w K mg 12 A.mV F.mV ["game","reader"] (FL K A.cD A.cI A.tabP):=λbase bb=>by
 refine T.mV.F.ok FQ (λvs H Q E h=> ?_) (λcdv Ar outer s0 H vs Q E hr h=> ?_)
 ·obtain⟨g,dgx,dw,sq,r,a,dx,s,ns,n,m,c,rfl,_⟩:=h
  rfl
 ·obtain⟨g,dgx,dw,sq,r,a,dx,s,ns,n,m,c,rfl,S,hN,hn,hm,hc,k⟩:=h
  refine⟨_,(aO (dJ (i:=2) FQ.nd rfl (cB rfl) (NJ (pv 1) T.cI T.eA (iT T base bb) hr)) (aO (gC (eB sO (pv 2) (fF rfl T.m8) (eZ _)) (aS (bU (gJ (aB (NJ (pv 0) T.cD T.iQ (LK T base bb) hr) aL)))) dN) (aO (gC (eB sO (pv 2) (fF rfl T.K7) (eZ _)) (aS (bU (gJ (aB (IL (pv 0) T.cD T.jK (NV T base bb) hr (aB (NJ (pv 1) T.cI T.fO (nA T base bb) hr) aL)) aL)))) dN) (aO (gC (eB sO (pv 2) (fF rfl T.m7) (eZ _)) (aS (bU (gJ (aB (IL (pv 0) T.cD T.lT (zP T base bb) hr (aB (NJ (pv 1) T.cI T.fJ (tK T base bb) hr) aL)) aL)))) dN) (aO (gC (eB sO (pv 2) (fF rfl T.K8) (eZ _)) (aS (bU (gJ (aB (IL (pv 0) T.cD T.rP (Ep T base bb) hr (aB (NJ (pv 1) T.cI T.fJ (tK T base bb) hr) aL)) aL)))) dN) (aO (gC (eB sO (pv 2) (fF rfl T.K9) (eZ _)) (aS (bU (IL (pv 0) T.cD T.jL (NW T base bb) hr (aB (NJ (pv 1) T.cI T.fO (nA T base bb) hr) aL)))) dN) (aS (bU (NJ (pv 0) T.cD T.iR (LL T base bb) hr))))))))),?_⟩
  simp_arith only[S.R.at_,HO.ins.injEq]
  refine⟨rfl,nH S.R hn λH1 b1 R1=> ?_⟩
  have S1:=S.read b1 R1
  have kr:∀{e xs},H e=some (.lst xs)->H1 e=some (.lst xs):=λh=>b1 _ _ h (eK h S.R.at_ (by intro z;cases z))
  have fr:∀{e},H1 e=none->H e=none:=λ{e} h=>b1.free h (bJ S1.R.at_ h).symm
  refine OE (decide (ns.getD n 0=1)) (λR h=> ?_) (λc1=> ?_) (λc1=> ?_)
  ·simp_arith
   exact h
  ·obtain⟨rfl,rfl⟩:=nc1 hN (of_decide_eq_true c1)
   simp_arith [↓rQ,S1.G.at_,HO.ins.injEq]
   refine⟨rfl,g,dgx,dw,sq,rfl,S1.G.at_,λH2 dw' sq' b2 n1 n2 G2=>⟨by rw[aX];decide,λq hq=> ?_⟩⟩
   have s3:aZ H2 (L2.upd H2 q (.lst [.int 0])):=aZ.upd hq
   have S2:=S1.anew b2 n2 G2
   refine k _ dw' sq' q (S2.same s3) (λe xs he hne=>⟨s3 _ _ (b2 _ _ (kr he) (eK (kr he) S1.G.at_ (by intro z;cases z))),bJ (kr he) n2⟩) (fr (b2.free hq (bJ G2.at_ hq).symm)) ?_
   rw[aK];rfl
  refine OE (decide (ns.getD n 0=2)) (λR h=> ?_) (λc2=> ?_) (λc2=> ?_)
  ·simp_arith
   exact h
  ·obtain⟨kk,hk,rfl,rfl⟩:=nc2 hN (of_decide_eq_true c2)
   obtain⟨hB,hl⟩:=Jh hc
   have es:=Sd s hB hl
   generalize dC s (eU [[2],rowOf ns (n+1) kk])=st at es k
   simp_arith [↓rQ,S1.G.at_,S1.R.at_,HO.ins.injEq]
   refine⟨rfl,rfl,wD S1.R hk λH2 q2 b2 R2 hq2 hq2'=> ?_⟩
   rw[ID hB] at hq2'
   have S2:=S1.read b2 R2
   have b12:=b1.trans b2
   have kp:O6 H H2 sq sq:=λe xs he hne=>⟨b12 _ _ he (eK he S.R.at_ (by intro z;cases z)),hne⟩
   have fr2:∀{e},H2 e=none->H e=none:=λ{e} h=>b12.free h (bJ S2.R.at_ h).symm
   have fin:∀{H3:Hp} {v:Int},aZ H2 H3->st=(s,[v])->[V.int v].length<=sizeLine/\∀l,H3 l=none->Q (.ref l) (L2.upd H3 l (.lst [.int v])):=λ{H3 v} s3 e=>⟨by rw[aX];show 1<=16777216;decide,λl hl3=>by
    subst e
    have s4:=s3.trans (aZ.upd (o:=.lst [.int v]) hl3)
    exact k _ dw sq l (S2.same s4) (λe xs he hne=>⟨s4 _ _ (kp e xs he hne).1,hne⟩) (fr2 (s3.free hl3)) aK⟩
   refine⟨g,dgx,dw,sq,q2,s.words,s.board,hZ (rowOf ns (n+1) kk),rfl,S2.G,dX.of hq2',by rw[mG];exact hl,λd1 H3 s3=> ?_,λd1 d2 H3 s3=> ?_,λd1 d2 d3 H3 s3=> ?_,λd1 d2 d3 H3 b3 G3=> ?_⟩
   ·rw[if_pos d1] at es
    exact fin s3 es
   ·rw[if_neg d1,if_pos d2] at es
    exact fin s3 es
   ·rw[if_neg d1,if_neg (by rw[d2];exact cO),if_pos d3] at es
    exact fin s3 es
   ·rw[if_neg d1,if_neg (by rw[d2];exact cO),if_neg d3] at es
    subst es
    have S3:=S2.words b3 G3 (Zs S2.W d1 (by rw[mG];exact hl) d2 d3)
    refine⟨by rw[aX];decide,λl hl3=>k _ dw sq l (S3.same (aZ.upd hl3)) (λe xs he hne=>⟨aZ.upd hl3 _ _ (b3 _ _ (kp e xs he hne).1 (eK (kp e xs he hne).1 S2.G.ws (by intro z;cases z))),hne⟩) (fr2 (b3.free hl3 (bJ S3.G.ws hl3).symm)) aK⟩
  refine OE (decide (ns.getD n 0=3)) (λR h=> ?_) (λc3=> ?_) (λc3=> ?_)
  ·simp_arith
   exact h
  ·obtain⟨kw,kr',h3,hkw,hkr,rfl,rfl⟩:=nc3 (.inl rfl) hN (of_decide_eq_true c3)
   obtain⟨hB,hl,hB2,hl2⟩:=OD (.inl rfl) hc
   have es:=Lw s (ns.getD (n+1) 0) (ns.getD (n+1+1) 0) (ns.getD (n+1+2) 0) hB hB2
   generalize dC s (eU _)=st at es k
   subst es
   simp_arith [↓rQ,S1.G.at_,S1.R.at_,HO.ins.injEq]
   refine⟨rfl,rfl,r,a,dx,ns,n+1,kw,kr',rfl,S1.R,h3,hkw,hkr,λH2 p dl aw ar b2 R2 hp hp2 haw har haw2 har2=> ?_⟩
   rw[ID hB] at haw2
   rw[ID hB2] at har2
   have S2:=S1.read b2 R2
   have b12:=b1.trans b2
   refine PM S2.G ⟨hp2,dX.of haw2,dX.of har2⟩ (by rw[mG];exact hl) (by rw[mG];exact hl2) λH3 s3=>⟨by rw[aX];decide,λl hl3=> ?_⟩
   have s4:=s3.trans (aZ.upd (o:=.lst [.int (gT s (ns.getD (n+1) 0) (ns.getD (n+1+1) 0) (ns.getD (n+1+2) 0) (hZ (rowOf ns (n+1+3) kw)) (hZ (rowOf ns (n+1+3+1+kw) kr')))]) hl3)
   exact k _ dw sq l (S2.same s4) (λe xs he hne=>⟨s4 _ _ (b12 _ _ he (eK he S.R.at_ (by intro z;cases z))),hne⟩) (b12.free (s3.free hl3) (bJ S2.R.at_ (s3.free hl3)).symm) aK
  refine OE (decide (ns.getD n 0=4)) (λR h=> ?_) (λc4=> ?_) (λc4=> ?_)
  ·simp_arith
   exact h
  ·obtain⟨kw,kr',h3,hkw,hkr,rfl,rfl⟩:=nc3 (.inr rfl) hN (of_decide_eq_true c4)
   obtain⟨hB,hl,hB2,hl2⟩:=OD (.inr rfl) hc
   have es:=Se s (ns.getD (n+1) 0) (ns.getD (n+1+1) 0) (ns.getD (n+1+2) 0) hB hB2
   generalize dC s (eU _)=st at es k
   simp_arith [↓rQ,S1.G.at_,S1.R.at_,HO.ins.injEq]
   refine⟨rfl,rfl,r,a,dx,ns,n+1,kw,kr',rfl,S1.R,h3,hkw,hkr,λH2 p dl aw ar b2 R2 hp hp2 haw har haw2 har2=> ?_⟩
   rw[ID hB] at haw2
   rw[ID hB2] at har2
   have S2:=S1.read b2 R2
   have b12:=b1.trans b2
   have k2:∀{e xs},H e=some (.lst xs)->H2 e=some (.lst xs):=λ{e xs} he=>b12 _ _ he (eK he S.R.at_ (by intro z;cases z))
   have fr2:∀{e},H2 e=none->H e=none:=λ{e} h=>b12.free h (bJ S2.R.at_ h).symm
   refine⟨g,dgx,dw,sq,p,dl,aw,ar,s.words,s.board,hZ (rowOf ns (n+1+3) kw),hZ (rowOf ns (n+1+3+1+kw) kr'),_,_,_,rfl,S2.G,⟨hp2,dX.of haw2,dX.of har2⟩,(bJ S1.G.sqs haw).symm,(bJ S1.G.sqs har).symm,by rw[mG];exact hl,by rw[mG];exact hl2,λd1 H3 s3=>⟨by rw[aX];decide,λl hl3=> ?_⟩,λd1 H3 b3 G3=>⟨by rw[aX];decide,λl hl3=> ?_⟩⟩
   ·have d1:gT s (ns.getD (n+1) 0) (ns.getD (n+1+1) 0) (ns.getD (n+1+2) 0) (hZ (rowOf ns (n+1+3) kw)) (hZ (rowOf ns (n+1+3+1+kw) kr')) < 0:=d1
    rw[if_pos d1] at es
    subst es
    have s4:=s3.trans (aZ.upd (o:=.lst [.int (gT s (ns.getD (n+1) 0) (ns.getD (n+1+1) 0) (ns.getD (n+1+2) 0) (hZ (rowOf ns (n+1+3) kw)) (hZ (rowOf ns (n+1+3+1+kw) kr')))]) hl3)
    exact k _ dw sq l (S2.same s4) (λe xs he hne=>⟨s4 _ _ (k2 he),hne⟩) (fr2 (s3.free hl3)) aK
   ·have d1:¬gT s (ns.getD (n+1) 0) (ns.getD (n+1+1) 0) (ns.getD (n+1+2) 0) (hZ (rowOf ns (n+1+3) kw)) (hZ (rowOf ns (n+1+3+1+kw) kr')) < 0:=d1
    rw[if_neg d1] at es
    subst es
    have S3:=S2.board b3 G3
    exact k _ dw sq l (S3.same (aZ.upd hl3)) (λe xs he hne=>⟨aZ.upd hl3 _ _ (b3 _ _ (k2 he) hne),hne⟩) (fr2 (b3.free hl3 (bJ S3.G.sqs hl3).symm)) aK
  refine OE (decide (ns.getD n 0=5)) (λR h=> ?_) (λc5=> ?_) (λc5=> ?_)
  ·simp_arith
   exact h
  ·obtain⟨kk,hk,rfl,rfl⟩:=nc5 hN (of_decide_eq_true c5)
   obtain⟨hB,hl⟩:=Ji hc
   have es:=Sf s hB hl
   generalize dC s (eU [[5],rowOf ns (n+1) kk])=st at es k
   subst es
   simp_arith [S1.G.at_,S1.R.at_,HO.ins.injEq]
   refine⟨rfl,rfl,wD S1.R hk λH2 q2 b2 R2 hq2 hq2'=> ?_⟩
   rw[ID hB] at hq2'
   have S2:=S1.read b2 R2
   have b12:=b1.trans b2
   refine ZF S2.G S2.W (by rw[mG];exact hl) hq2' S2.t λH3 q t3 hq hq'=> ?_
   exact k _ dw sq q (S2.sm t3) (λe xs he hne=>⟨t3.k (b12 _ _ he (eK he S.R.at_ (by intro z;cases z))) rfl,hne⟩) (b12.free hq (bJ S2.R.at_ hq).symm) hq'
  obtain⟨rfl,rfl⟩:=nc6 hN (of_decide_eq_false c1) (of_decide_eq_false c2) (of_decide_eq_false c3) (of_decide_eq_false c4) (of_decide_eq_false c5)
  have es:=Lx s S.G.ok
  generalize dC s (eU [[6]])=st at es k
  subst es
  simp_arith [S1.G.at_,HO.ins.injEq]
  refine⟨rfl,g,dgx,dw,sq,s.words,s.board,rfl,S1.G,λH2 q s2 hq hq'=>k _ dw sq q (S1.same s2) (λe xs he hne=>⟨s2 _ _ (kr he),hne⟩) (fr hq) ?_⟩
  rw[hq']
  unfold pV
  rw[aJ,bR]
  rfl
end
section
variable {P:bS}{w:cY}{K:PySem.W.Frag}{mg:Str->Option aC}{A:Ad}{F:Fd}
theorem xH:bV ["calls","reader","game","answered","answer"] ["calls"] (defScope Bc):=⟨rfl,rfl,rfl,by decide+kernel,rfl,by decide+kernel,by decide+kernel⟩
def y4 (PT:Addr)(K:PySem.W.Frag):Sp:=λvs H Q _=>∃(a:Addr) (ns:List Int),vs=[.ref a]/\dX K H a (ns.map V.int)/\ns.length<=30000/\LW ns=true/\RB H PT/\∀(H':Hp) (p:Addr),H' p=some (.lst ((uA ns).map V.int))->Q (.ref p) H'
theorem Mq (T:kR K mg A F):Ok P w K mg 13 A.answers F.answers ["calls"] (y4 A.tabP K):=λbase bb=>by
 refine T.answers.F.ok xH (λvs H Q E h=> ?_) (λcdv Ar outer s0 H vs Q E hr h=> ?_)
 ·obtain⟨a,ns,rfl,_⟩:=h
  rfl
 ·obtain⟨a,ns,rfl,ha,hz,hask,tb,k⟩:=h
  obtain⟨raw,e1,e2,e3,e4,e5⟩:=Yq hask
  refine⟨_,(aO (dJ (i:=1) xH.nd rfl (cB rfl) (y9 T.Ss T.cI T.lN (WT T base bb) hr (aB (pv 0) aL))) (aO (dJ (i:=2) xH.nd rfl (cB rfl) (D9 T.j5 T.cD T.pL (Er T base bb) hr)) (aO (dJ (i:=3) xH.nd rfl (cB rfl) (gJ aL)) (aO (Ie eP (gI (NJ (pv 1) T.cI T.iN (LJ T base bb) hr)) (aO (dJ (i:=4) xH.nd rfl (cB rfl) (oF T.mV (WR T base bb) hr (aB (pv 2) (aB (pv 1) aL)))) (aO (sJ (JU PySem.F.plainAttrs_list PySem.F.slot_list_append PySem.F.type_list_append QJ (pv 3) (aB (eQ eR (by rfl) T.sV PySem.boot_len (aB (pv 4) aL)) aL))) (aS (sJ (JU PySem.F.plainAttrs_list PySem.F.slot_list_extend PySem.F.type_list_extend HW (pv 3) (aB (pv 4) aL))))))) (aS (bU (pv 3))))))),?_⟩
  simp_arith only[↓AQ]
  intro r dx nr nd ne
  refine⟨r,a,dx,rfl,aK,λH1 b1 hr1=> ?_⟩
  have own:∀{H:Hp} {c d:Addr} {o:HO},H c=none->H d=none->∀b u,H b=some u->L2.upd (L2.upd H d (.own c)) c o b=some u:=λ{H c d o} hc hd b u h=>by
   rw[aM (bJ h hc),aM (bJ h hd)];exact h
  have kept1:aZ H H1:=λb u h=>b1 _ _ (own nr nd b u h) (bJ h nr)
  refine⟨rfl,?_⟩
  simp_arith only[↓AQ]
  intro g dgx ng ngd nge
  refine⟨g,dgx,rfl,aK,λH2 dw sq b2 hdw hsq G2=>⟨rfl,?_⟩⟩
  have kept2:aZ H1 H2:=λb u h=>b2 _ _ (own ng ngd b u h) (bJ h ng)
  have fsq:H1 sq=none:=by
   cases e:H1 sq with
   | none=>rfl
   | some u=>rw[own ng ngd _ _ e] at hsq;cases hsq
  have s02:=kept1.trans kept2
  have S0:pJ K A.cD A.cI A.tabP H2 g dgx dw sq r a dx ME ns 0:=
   ⟨G2,⟨nM,by decide,λw h=>by cases h⟩,⟨kept2 _ _ hr1,s02.seq ha,cA _,hz⟩,Aw.of (kept1.seq ha) fsq,tb.same s02⟩
  simp_arith only[↓rQ]
  refine⟨cA _,λo ho=> ?_⟩
  have wo:Aw K a o (ns.map V.int):=Aw.of S0.R.sq ho
  have s3:aZ H2 (L2.upd H2 o (.lst [])):=aZ.upd ho
  have o3:(L2.upd H2 o (.lst [])) o=some (.lst (([]:List Int).map V.int)):=aK
  generalize L2.upd H2 o (.lst [])=H3 at s3 o3 ⊢
  refine⟨λm σ H'=>∃(dw sq:Addr) (s:pN) (n f:Nat) (cs:List (List (List Int))) (acc:List Int) (v4:Option V),σ=[some (.ref a),some (.ref r),some (.ref g),some (.ref o),v4]/\pJ K A.cD A.cI A.tabP H' g dgx dw sq r a dx s ns n/\H' o=some (.lst (acc.map V.int))/\o≠sq/\
   pX eM f (ns.drop n)=some cs/\(∀c∈cs,qQ gW c=true)/\acc++LY (Kl dC s (cs.map eU))=uA ns/\m=ns.length - n,
   ⟨_,dw,sq,ME,0,ns.length,raw,[],none,rfl,S0.same s3,o3,(bJ G2.sqs ho).symm,e1,e3,e4.symm,rfl⟩,?_⟩
  rintro m σ H' ⟨dw,sq,s,n,f,cs,acc,v4,rfl,S,ho',hne,hcs,hin,hacc,rfl⟩
  simp_arith [S.R.at_,HO.ins.injEq]
  refine⟨rfl,_,⟨r,a,dx,ns,n,rfl,S.R,rfl⟩,λH4 s4=>Kh ?_⟩
  have S4:=S.same s4
  have o4:=s4 _ _ ho'
  by_cases hn:n < ns.length
  ·rw[if_pos (decide_eq_true hn)]
   obtain⟨c,cs',m',f',rfl,hN,hm',hcs'⟩:=Ni hcs hn
   have hacc':=hacc
   rw[aJ] at hacc
   unfold Kl at hacc
   rw[Ry] at hacc
   have hlen:=congrArg iI hacc
   simp only[bZ,cM] at hlen
   refine⟨λσ' H5=>∃(dw' sq' q:Addr),σ'=[some (.ref a),some (.ref r),some (.ref g),some (.ref o),some (.ref q)]/\pJ K A.cD A.cI A.tabP H5 g dgx dw' sq' r a dx (dC s (eU c)).1 ns m'/\
    H5 o=some (.lst ((acc++(((dC s (eU c)).2.length:Int)::(dC s (eU c)).2)).map V.int))/\o≠sq',?_,TN S4 hN hn hm' (hin c (aT ..)) λH5 dw' sq' q S5 kp hq hq'=> ?_⟩
   ·rintro _ H5 ⟨dw',sq',q,rfl,S5,o5,n5⟩
    refine⟨_,?_,dw',sq',_,m',f',cs',_,_,rfl,S5,o5,n5,hcs',λc hc=>hin c (aN _ hc),?_,rfl⟩
    ·have:=U2 hN
     omega
    ·rw[pP]
     exact hacc
   ·obtain⟨o5,n5⟩:=kp o _ o4 hne
    simp_arith
    have oq:q≠o:=λz=>by rw[z,o4] at hq;cases hq
    refine⟨.inl ⟨rfl,_,dX.of o5⟩,_,.inl (dX.of hq'),_,o5,?_,.inl ⟨rfl,_,dX.of aK⟩,o,q,_,_,rfl,rfl,aK,by rw[aM oq];exact hq',?_,dw',sq',(S5.put o5 n5 wo).put aK n5 wo,?_,n5⟩
    ·rw[aA,aX];omega
    ·rw[bZ,aA,aA,aX,MB];omega
    ·rw[aK,aA,cC,aJ,pP];rfl
  ·rw[if_neg (by rw[decide_eq_false hn];exact cO)]
   simp_arith
   have:=Tz hcs hn
   subst this
   have hacc:acc++[]=uA ns:=hacc
   rw[eX] at hacc
   exact k _ o (by rw[o4,hacc])
end
section
open PySem.W (WData Codec OpenSpec Well WellAll ReadsW ReadsAllW)
theorem Ly {P:bS}{w:cY}{K:PySem.W.Frag}{mg mb:Str->Option aC}{CX:Zc}{k:Nat}{fa c0 Pt:Addr}{fd:bG}{ps:List Str}{sp:Sp}{s₁:aI}{vals:List aC}{ds:List WData}{R:PySem.W.WRecords}{cl:Str->Option Addr}{d0:WData}
  (KX:K.In s₁.heap) (hns:s₁.heap.Ns mainGlobals mg) (hb:s₁.heap.Ns builtinsNs mb) (hbb:∀x:Str,x≠"__name__"->mb x=bootBuiltins x) (hlim:s₁.heap.NoLimit) (hg:s₁.gens= #[])
  (hwl:WellAll w.params s₁.heap vals ds) (hpl:TU ds=true) (hwt:∀d∈ds,d.weight<=1048576) (hr:oJ k callerA) (hC:PySem.W.CodeHd s₁.heap c0 Pt) (hP:s₁.heap.get? Pt=some (PySem.W.tabObj #[])) (hKP:K.lookup Pt=none)
  (hbm:∃bm ob,mg "__builtins__"=some (.ref bm)/\bm≠builtinsNs/\s₁.heap.get? bm=some ob/\ob.cls=.type "module"/\ob.dict=some builtinsNs/\ob.data=.plain) (F:∀base:Heap,Df base mg->BL P w K mg base CX k fa fd ps sp) (hbind:xY K fd ps []) (hlen:ds.length=ps.length)
  (hsp:∀(H0 H:Hp) (xs:List V),(∀b o,H0 b=some o->H b=some o)->H Pt=some (.tbl #[])->HJ K H0 xs ds->sp xs H (λv H'=>Dw K H' v d0) λ_ _ _=>False)
  (hCX:∀H e s',CX [] H s₁ (λ_ _ _=>False) e s'->False):
  codeAny (model P w) callerA (.call (.ref fa) ⟨vals,[]⟩) (λr s'=>∃u as,r=.ok (.ret u)/\ReadsW R cl s'.heap u d0 as/\OldK s₁.heap s'.heap/\s'.os=s₁.os/\Gk s'.gens) s₁:=by
 obtain⟨A,ho,ar⟩:=OP ds vals hwl hpl hwt
 have hS:=Fi KX ar ds vals hwl hpl ho
 have hV:=zZ ho
 have hO:=Ug (K:=K) ar
 have n0:uP K s₁.heap A Pt=none:=by
  cases q:uP K s₁.heap A Pt with
  | none=>rfl
  | some u=>
   obtain⟨_,vs,_,_,⟨e,_⟩ | ⟨e,_⟩⟩:=IE ar q
   ·rw[e] at hP;cases hP
   ·rw[e] at hP;cases hP
 have hok:IG P w (L2.upd (uP K s₁.heap A) Pt (.tbl #[])) s₁.heap:=λb u q=>by
  by_cases hb:b=Pt
  ·subst hb
   rw[aK] at q
   cases q
   exact hP
  ·rw[aM hb] at q
   obtain⟨_,vs,h1,h2,⟨e,rfl⟩ | ⟨e,rfl⟩⟩:=IE ar q
   ·exact⟨e,by rw[aA];exact h1,vs,_,zZ h2,e⟩
   ·exact⟨e,by rw[aA];exact h1,vs,zZ h2,_,e,rfl,_,rfl⟩
 have hK:∀b u,L2.upd (uP K s₁.heap A) Pt (.tbl #[]) b=some u->K.lookup b=none:=λb u q=>by
  by_cases hb:b=Pt
  ·rw[hb];exact hKP
  ·rw[aM hb] at q
   exact(IE ar q).1
 have noA:∀{b:Addr} {o:Obj} {es:Array lX} {ep:Nat},s₁.heap.get? b=some o->o.data=.dict es ep->L2.upd (uP K s₁.heap A) Pt (.tbl #[]) b=none:=λ{b o es ep} e d=>by
  have hb:b≠Pt:=λz=>by
   rw[z,hP] at e
   cases e
   cases d
  rw[aM hb]
  cases q:uP K s₁.heap A b with
  | none=>rfl
  | some u=>
   obtain⟨_,vs,_,_,⟨e2,_⟩ | ⟨e2,_⟩⟩:=IE ar q
   ·rw[e2] at e
    cases e
    cases (show Yx vs.toArray _=Data.dict es ep from d)
   ·rw[e2] at e
    cases e
    cases (show Yx vs.toArray _=Data.dict es ep from d)
 have hMo:∀{b:Addr} {o:Obj},s₁.heap.get? b=some o->o.cls=.type "module"->L2.upd (uP K s₁.heap A) Pt (.tbl #[]) b=none:=λ{b o} e d=>by
  have hb:b≠Pt:=λz=>by
   rw[z,hP] at e
   cases e
   cases d
  rw[aM hb]
  cases q:uP K s₁.heap A b with
  | none=>rfl
  | some u=>
   obtain⟨_,vs,_,_,⟨e2,_⟩ | ⟨e2,_⟩⟩:=IE ar q
   ·rw[e2] at e
    cases e
    exact absurd (mK d) (by decide)
   ·rw[e2] at e
    cases e
    exact absurd (mK d) (by decide)
 have hsm:∀b o,uP K s₁.heap A b=some o->L2.upd (uP K s₁.heap A) Pt (.tbl #[]) b=some o:=λb o q=>by
  rw[aM (λz=>by rw[z,n0] at q;cases q)]
  exact q
 have hOT:∀b,b≠Pt->L2.upd (uP K s₁.heap A) Pt (.tbl #[]) b=none\/∃o u,L2.upd (uP K s₁.heap A) Pt (.tbl #[]) b=some (.frz o u):=λb hb=>by
  rw[aM hb]
  exact hO b
 have hPT:L2.upd (uP K s₁.heap A) Pt (.tbl #[]) Pt=some (.tbl #[]):=aK
 have hsp':=hsp _ _ (vals.map Ge) hsm hPT hS
 generalize L2.upd (uP K s₁.heap A) Pt (.tbl #[])=H at hok hK noA hMo hOT hPT hsp'
 have base_of:∀{b:Addr} {o:Obj},s₁.heap.get? b=some o->H b=none->(ZW s₁.heap H).get? b=some o:=λe n=>Yb e n
 have nsK:∀{b:Addr} {m:Str->Option aC},s₁.heap.Ns b m->(ZW s₁.heap H).Ns b m:=λ{b m} ⟨o,es,ep,e,d,r⟩=>⟨o,es,ep,base_of e (noA e d),d,r⟩
 have nK:∀b o,K.lookup b=some o->H b=none:=λb o e=>by
  cases q:H b with
  | none=>rfl
  | some u=>rw[hK b u q] at e;cases e
 have hKb:K.In (ZW s₁.heap H):=λb o e=>base_of (KX b o e) (nK b o e)
 have hM:Z4 K mg (ZW s₁.heap H):=⟨hKb,nsK hns,⟨mb,nsK hb,hbb⟩,let ⟨mc,h1,h2⟩:=hlim;⟨mc,nsK h1,h2⟩⟩
 have hBl:Df (ZW s₁.heap H) mg:=by
  obtain⟨bm,ob,b1,b2,b3,b4,b5,b6⟩:=hbm
  refine⟨bm,ob,b1,b2,λz=> ?_,base_of b3 (hMo b3 b4),b4,b5,b6⟩
  obtain⟨o,es,ep,e,d,_⟩:=hns
  rw[z,e] at b3
  cases b3
  rw[d] at b6
  cases b6
 have e0:Ol P w K mg (ZW s₁.heap H) callerA [] s₁ H:=⟨rfl,hM,λb o e=>j3 e,zX (Th _ _),trivial,λb hb=>absurd (show b∈([]:List Addr) from hb) (by simp),hok,.of_eq hg⟩
 have hl:vals.length=ps.length:=by rw[yG hwl];exact hlen
 have hbd:=hbind s₁ vals KX (by rw[eX];exact hl)
 rw[eX] at hbd
 refine Gg ((F _ hBl).run callerA [] s₁ H ⟨vals,[]⟩ vals (vals.map Ge) _ _ hr e0 hbd hV hsp') λr s' x=> ?_
 cases r with
 | error e=>exact(hCX H e s' x).elim
 | ok fl=>
  cases fl with
  | next=>exact fS x
  | brk=>exact fS x
  | cont=>exact fS x
  | ret u=>
   obtain⟨v,H',os,bare,un,hok',r',q⟩:=x
   have kept:∀b o,b≠Pt->s₁.heap.get? b=some o->s'.heap.get? b=some o:=λb o hb e=>by
    rcases hOT b hb with z | ⟨ob,u3,z⟩
    ·exact un.keep b o e z (by intro z;exact absurd (show b∈([]:List Addr) from z) (by simp)) (by simp)
    ·obtain⟨e1,_⟩:=hok b _ z
     obtain⟨e2,_⟩:=hok' b _ (un.frzs b ob _ z)
     rw[e] at e1
     cases e1
     exact e2
   obtain⟨more,hm⟩:=un.tbls Pt _ hPT
   have hP':s'.heap.get? Pt=some { cls:=.none,data:=.fields (#[]++more) }:=hok' Pt _ hm
   have KX':K.In s'.heap:=λb o e=>kept b o (λz=>by rw[z,hKP] at e;cases e) (KX b o e)
   obtain⟨as,hrd⟩:=Dw.reads (R:=R) (cl:=cl) hok' KX' d0 v u q r'
   refine⟨u,as,rfl,hrd,⟨λb o e=> ?_,λb o e=> ?_⟩,os,bare⟩
   ·by_cases hb:b=Pt
    ·subst hb
     rw[hP] at e
     cases e
     exact .inr (.inl ⟨(hC.tab hP).isCodeTable,rfl,#[],more,rfl,hP'⟩)
    ·exact .inl (kept b o hb e)
   ·by_cases hb:b=Pt
    ·subst hb
     exact⟨_,hP'⟩
    ·exact⟨o,kept b o hb e⟩
theorem Lq {K:PySem.W.Frag}{x:Str}{f c P:Addr}{oc oc':aC}{od od':Option Addr}{fd:bG}{sl sl':Array (Option aC)}{vs:Array aC}(a:PySem.W.nsIn K mainGlobals x=some (some (.ref f)))(l:K.lookup f=some ⟨oc,od,.func fd,sl⟩)(hc:fd.code=.ref c)
  (l2:K.lookup c=some ⟨oc',od',.fields vs,sl'⟩) (h11:vs[11]? =some (.ref P)):PySem.W.tabIn K x=some (c,P):=by
 unfold PySem.W.tabIn
 simp only[a,l,hc,l2,h11]
theorem Tv {K:PySem.W.Frag}{c P:Addr}{od:Option Addr}{sl:Array (Option aC)}{vs:Array aC}{f:Str}{tf tg tt:Tok}{fl n:Int}{b:Bool}(l:K.lookup c=some ⟨.type "code",od,.fields vs,sl⟩)(h11:vs[11]? =some (.ref P))(h18:vs.getD 18 .none=.str f tf)(h7:vs.getD 7 .none=.int fl tg)(h9:vs.getD 9 .none=.bool b)(h10:vs.getD 10 .none=.int n tt)(hne:c≠P):
  ∀h,K.In h->PySem.W.CodeHd h c P:=λh X=>⟨_,vs,f,tf,fl,tg,b,n,tt,X _ _ l,rfl,rfl,h11,by rw[Array.getD_eq_getD_getElem?,h11];rfl,h18,h7,h9,h10,hne⟩
theorem Lf {r:OpenSpec}{k:Nat}{q:bS}{loose:List Str}{XP:(Str->Option aC)->Heap->Prop}{YP:cY->Heap->Prop}{d:DefRec}{K:Ku->PySem.W.Frag}{CX:Zc}{ps:List Str}{sp:PySem.W.Frag->Sp}{x:Str}{c0 Pt:Addr}
  (hwell:r.wellSaid=true) (hdf:d.params.defaults=[]) (hlen:r.args.length=ps.length) (hr:oJ k callerA)
  (hY:∀(w:cY) (h:Heap),YP w h->(K w.params).In h) (hx:((recsOf q).find? (λe=>e.name==x)).isSome=true) (ht:∀w:cY,PySem.W.tabIn (K w.params) x=some (c0,Pt)) (hno:∀w:cY,(K w.params).lookup Pt=none)
  (F:∀(w:cY) (mg:Str->Option aC) (fa:Addr) (h:Heap),YP w h->(K w.params).In h->h.Ns mainGlobals mg->mg d.name=some (.ref fa)->
   ∃fd:bG,xY (K w.params) fd ps []/\
    ∀base:Heap,Df base mg->BL r.prog w (K w.params) mg base CX k fa fd ps (sp (K w.params)))
  (hsp:∀(K:PySem.W.Frag) (H0 H:Hp) (xs:List V) (a:Codec.denoteAll r.args),(∀b o,H0 b=some o->H b=some o)->H Pt=some (.tbl #[])->Codec.withinAll r.args a=true->Codec.app r.args r.asked a=true->HJ K H0 xs (Codec.encAll r.args a)->
   sp K xs H (λv H'=>Dw K H' v (r.ret.enc (Codec.app r.args r.f a))) λ_ _ _=>False)
  (hCX:∀(H:Hp) (s:aI) (e:aC) (s':aI),CX [] H s (λ_ _ _=>False) e s'->False):
  PySem.W.WalkOS q loose XP YP r d [] (λf vs=>PySem.call f vs):=by
 intro w s_0 s₁ mg mb G Y fa o pm cd doc dV kV ho hd hcd hD hmg hg args vals as hpre hlay hrd hwl hlo
 obtain⟨a,e1,e2⟩:=PySem.W.os_pre_some hpre
 obtain⟨e3,hwi⟩:=Codec.encAll_of_decAll r.args args a e1
 subst e3
 have KX:=hY w _ Y
 obtain⟨dl,hdl⟩:=rW.mp hx
 obtain⟨hC,hP⟩:=PySem.W.tab_of G.T KX hdl (ht w)
 obtain⟨fd,hb,hF⟩:=F w mg fa _ Y KX G.T.g hmg
 refine PySem.W.enter_call (Gg (Ly (R:=[]) (cl:=classAt s_0.heap) (d0:=r.ret.enc (Codec.app r.args r.f a)) KX G.T.g G.T.b G.T.builtins G.T.nolimit hg hwl (Bj _ _) (XB hlay) hr hC hP (hno w) G.T.bmain hF hb (by rw[XR];exact hlen)
  (λH0 H xs h1 h2 hS=>hsp (K w.params) H0 H xs a h1 h2 hwi e2 hS) λH e s'=>hCX H s₁ e s') λr' s' hq=> ?_)
 obtain⟨u,as',rfl,h1,h2,h3,h4⟩:=hq
 exact⟨.inl ⟨u,_,as',rfl,λ_=>rfl,h1,(OpenSpec.post_iff hwell hwi _ _).mpr rfl,λz=>cO (show false=true from z)⟩,h2,h3,h4⟩
end
end My
set_option Elab.async false
set_option linter.all false
namespace My
open PySem PySem.Spec PyProof.Rows L2
theorem M6 {P:List aC->Prop}(h:P []):∀us:List aC,us.length=0->P us
 | [],_=>h
theorem Ui {P:List aC->Prop}{n:Nat}(h:∀a us,us.length=n->P (a::us)):∀us:List aC,us.length=n+1->P us
 | a::us,e=>h a us (Nat.succ.inj e)
theorem M5 {P:List aC->Prop}(h:∀a,P [a]):∀us:List aC,us.length=1->P us:=Ui λa=>M6 (P:=λl=>P (a::l)) (h a)
theorem M4 {P:List aC->Prop}(h:∀a b,P [a,b]):∀us:List aC,us.length=2->P us:=Ui λa=>M5 (P:=λl=>P (a::l)) (h a)
theorem M3 {P:List aC->Prop}(h:∀a b c,P [a,b,c]):∀us:List aC,us.length=3->P us:=Ui λa=>M4 (P:=λl=>P (a::l)) (h a)
theorem M1 {P:List aC->Prop}(h:∀a b c d,P [a,b,c,d]):∀us:List aC,us.length=4->P us:=Ui λa=>M3 (P:=λl=>P (a::l)) (h a)
theorem M0 {P:List aC->Prop}(h:∀a b c d e,P [a,b,c,d,e]):∀us:List aC,us.length=5->P us:=Ui λa=>M1 (P:=λl=>P (a::l)) (h a)
theorem V7 {P:List aC->Prop}(h:∀a b c d e f,P [a,b,c,d,e,f]):∀us:List aC,us.length=6->P us:=Ui λa=>M0 (P:=λl=>P (a::l)) (h a)
section
variable {K:PySem.W.Frag}{h:Heap}{mg:Str->Option aC}{x qual:Str}{f C a:Addr}{fs ps:List Str}{st:Stmt}{oc kV doc pm cdv ct:aC}{od an:Option Addr}{sl:Array (Option aC)}
theorem F1 (X:K.In h)(G:h.Ns mainGlobals mg)(a:PySem.W.nsIn K mainGlobals x=some (some (.ref C)):=by k_is)(pg:PySem.W.plainGet K C Str.empty=true:=by k_is)(hd:PySem.W.hasDictIn K C=true:=by k_is)(po:PySem.W.plainOver K C=true:=by k_is)
  (sa:PySem.W.findIn K (.ref C) "__setattr__"=some (some (.builtin "object.__setattr__")):=by(try dsimp only);k_is) (no:∀f∈fs,PySem.W.findIn K (.ref C) f=some none:=by repeat (first | exact List.forall_mem_nil _ | refine xT.mpr ⟨by(try dsimp only);k_is,?_⟩)):EC K mg x C fs:=⟨PySem.W.mg_of X G a,⟨pg,hd,po,sa⟩,no⟩
theorem wY (X:K.In h)(G:h.Ns mainGlobals mg)(a:PySem.W.nsIn K mainGlobals x=some (some (.ref f)):=by k_is)(l:K.lookup f=some ⟨oc,od,.func (PySem.W.fnOf x x (defArgs st) (defBody st) (defScope st) .none kV doc pm an cdv ct),sl⟩:=by k_is)(c:PySem.W.codeIn K cdv x=true:=by k_is)(k:PySem.W.keepIn K (.ref f)=true:=by(try dsimp only);k_is)
  (hb:∀(kV doc pm:aC) (an:Option Addr) (cdv ct:aC) (us:List aC),us.length=ps.length->bindArgs (PySem.W.fnOf x x (defArgs st) (defBody st) (defScope st) .none kV doc pm an cdv ct) ⟨us,[]⟩=pure (ps.zip us):=by first | exact λ_ _ _ _ _ _=>M5 λ_=>rfl | exact λ_ _ _ _ _ _=>M4 λ_ _=>rfl | exact λ_ _ _ _ _ _=>M3 λ_ _ _=>rfl | exact λ_ _ _ _ _ _=>M1 λ_ _ _ _=>rfl | exact λ_ _ _ _ _ _=>M0 λ_ _ _ _ _=>rfl | exact λ_ _ _ _ _ _=>V7 λ_ _ _ _ _ _=>rfl | exact λ_ _ _ _ _ _=>M6 rfl):fR K mg x st ps f (PySem.W.fnOf x x (defArgs st) (defBody st) (defScope st) .none kV doc pm an cdv ct):=
 ⟨PySem.W.mg_of X G a,Fe l c k,(Fe l c k).binds hb⟩
theorem IR (a:PySem.W.findIn K (.ref C) x=some (some (.ref f)):=by(try dsimp only);k_is)(i:PySem.W.isFn K (.ref f)=true:=by(try dsimp only);k_is)(l:K.lookup f=some ⟨oc,od,.func (PySem.W.fnOf x qual (defArgs st) (defBody st) (defScope st) .none kV doc pm an cdv ct),sl⟩:=by k_is)(c:PySem.W.codeIn K cdv qual=true:=by k_is)(k:PySem.W.keepIn K (.ref f)=true:=by(try dsimp only);k_is)
  (hb:∀(kV doc pm:aC) (an:Option Addr) (cdv ct:aC) (us:List aC),us.length=ps.length->bindArgs (PySem.W.fnOf x qual (defArgs st) (defBody st) (defScope st) .none kV doc pm an cdv ct) ⟨us,[]⟩=pure (ps.zip us):=by first | exact λ_ _ _ _ _ _=>M5 λ_=>rfl | exact λ_ _ _ _ _ _=>M4 λ_ _=>rfl | exact λ_ _ _ _ _ _=>M3 λ_ _ _=>rfl | exact λ_ _ _ _ _ _=>M1 λ_ _ _ _=>rfl | exact λ_ _ _ _ _ _=>M0 λ_ _ _ _ _=>rfl | exact λ_ _ _ _ _ _=>V7 λ_ _ _ _ _ _=>rfl | exact λ_ _ _ _ _ _=>M6 rfl):fQ K C x qual st ps f (PySem.W.fnOf x qual (defArgs st) (defBody st) (defScope st) .none kV doc pm an cdv ct):=
 ⟨⟨a,i,k⟩,Fe l c k,(Fe l c k).binds hb⟩
theorem Mu (a:PySem.W.makesIn K C=true:=by k_is)(b:PySem.W.findIn K (.ref C) "__init__"=some (some (.ref f)):=by(try dsimp only);k_is)(i:PySem.W.isFn K (.ref f)=true:=by(try dsimp only);k_is)(k:PySem.W.keepIn K (.ref C)=true:=by(try dsimp only);k_is):Mk K C f:=⟨a,b,i,k⟩
theorem ZT {i:Int}{t:Tok}(X:K.In h)(G:h.Ns mainGlobals mg)(a:PySem.W.nsIn K mainGlobals x=some (some (.int i t)):=by k_is):∃t,mg x=some (.int i t):=⟨t,PySem.W.mg_of X G a⟩
theorem Uw (X:K.In h)(G:h.Ns mainGlobals mg)(a:PySem.W.nsIn K mainGlobals x=some none:=by k_is):mg x=none:=PySem.W.mg_none_of X G a
theorem mkT {xs:List Int}{its:Array aC}{n:Nat}(X:K.In h)(G:h.Ns mainGlobals mg)(e:PySem.W.nsIn K mainGlobals x=some (some (.ref a)):=by k_is)(l:K.lookup a=some ⟨.type "tuple",od,.seq its n,sl⟩:=by k_is)(z:its.size<=1000:=by decide)(v:IntsAre its.toList xs:=by repeat (first | exact .nil | refine .cons _ _ ?_)):A4 K mg x a xs:=
 ⟨PySem.W.mg_of X G e,λH=>.inr ⟨_,its,n,l,rfl,rfl,cV z (by rw[aX];decide),sA v⟩⟩
abbrev fc (K:PySem.W.Frag)(y:List mX×Addr×aC)(p:List Int×Int):Prop:=y.1=p.1.map eI/\(∃t,y.2.2=pB p.2 t)/\∃(o:Obj) (its:Array aC) (n:Nat),K.lookup y.2.1=some o/\o.cls=.type "tuple"/\o.data=.seq its n/\IntsAre its.toList p.1
inductive DE (K:PySem.W.Frag):List lX->List (List Int×Int)->Prop
 | nil:DE K [] []
 | cons {hsh:Int} {y:Addr} {t:Tok} {k:List Int} {v:Int} {od:Option Addr} {its:Array aC} {n:Nat} {sl:Array (Option aC)} {es:List lX} {ps:List (List Int×Int)} (l:K.lookup y=some ⟨.type "tuple",od,.seq its n,sl⟩) (i:IntsAre its.toList k)
   (hh:∀(P:bS) (w:cY),(tupleKind (iD P w)).hash (k.map eI)=hsh) (r:DE K es ps):DE K (⟨hsh,.ref y,.int v t⟩::es) ((k,v)::ps)
theorem DE.xs {es:List lX}{ps:List (List Int×Int)}(h:DE K es ps):∃xs:List (List mX×Addr×aC),(∀(P:bS) (w:cY),es=xs.map (entryOfKey (tupleKind (iD P w))))/\xs.map (·.1)=(ps.map (·.1)).map (λl=>l.map eI)/\Paired (fc K) xs ps:=by
 induction h with
 | nil=>exact⟨[],λ_ _=>rfl,rfl,.nil⟩
 | @cons hsh y t k v od its n sl es ps l i hh r ih=>
  obtain⟨xs,h1,h2,h3⟩:=ih
  refine⟨(k.map eI,y,.int v t)::xs,λP w=> ?_,?_,.cons ⟨rfl,⟨t,rfl⟩,_,its,n,l,rfl,rfl,i⟩ h3⟩
  ·rw[aJ, <-h1 P w,entryOfKey,hh P w]
  ·rw[aJ,aJ,aJ,h2]
theorem U3 {kvs:List (List Int×Int)}{es:Array lX}{ep:Nat}(X:K.In h)(G:h.Ns mainGlobals mg)(e:PySem.W.nsIn K mainGlobals x=some (some (.ref a)):=by k_is)(l:K.lookup a=some ⟨.type "dict",none,.dict es ep,#[]⟩:=by k_is)(m:(a==sysModules)=false:=by(try dsimp only);decide)
  (p:DE K es.toList kvs:=by repeat (first | exact .nil | (refine' DE.cons ?l ?i ?h ?_;(case l=>k_is);(case i=>exact .cons _ _ (.cons _ _ .nil));(case h=>intro P w;first | rfl | kernel_rfl)))) (nd:((kvs.map (·.1)).map (λl=>l.map (eI:Int->mX))).Nodup:=by decide):DictAt K mg x a kvs:=by
 obtain⟨xs,h1,h2,h3⟩:=p.xs
 exact⟨PySem.W.mg_of X G e,m,_,es,ep,xs,l,⟨rfl,rfl,rfl⟩,rfl,h1,by rw[h2];exact nd,h3⟩
theorem mkL {fd:bG}{c P:Addr}{vs:Array aC}{sl2:Array (Option aC)}{od2:Option Addr}{fl n:Int}{fn:Str}{tf tg tt:Tok}{b:Bool}(hc:fd.code=.ref c:=by exact rfl)(l2:K.lookup c=some ⟨.type "code",od2,.fields vs,sl2⟩:=by k_is)(h11:vs[11]? =some (.ref P):=by exact rfl)
  (h18:vs.getD 18 .none=.str fn tf:=by exact rfl) (h7:vs.getD 7 .none=.int fl tg:=by exact rfl) (h9:vs.getD 9 .none=.bool b:=by exact rfl) (h10:vs.getD 10 .none=.int n tt:=by exact rfl) (hne:c≠P:=by(try dsimp only);decide):B4 K mg fd P:=⟨⟨c,hc,Tv l2 h11 h18 h7 h9 h10 hne⟩⟩
end
end My
def PySem.W.Fast.tw3289126028979073125:=0
def PySem.W.Fast.tw15651844597713356064:=0
def PySem.W.Fast.tw13992691436674995254:=0
def PySem.W.Fast.tw16763346511347048707:=0
def PySem.W.Fast.tw2169578556135838431:=0
def PySem.W.Fast.tw123110948709199613:=0
def PySem.W.Fast.tw10507335036097272454:=0
def PySem.W.Fast.tw17737896973620367413:=0
def PySem.W.Fast.tw12019460706436985542:=0
def PySem.W.Fast.tw8366961761244776642:=0
def PySem.W.Fast.tw5317090372364928134:=0
def PySem.W.Fast.tw12506612997482789634:=0
def PySem.W.Fast.tw4073166731090265271:=0
def PySem.W.Fast.tw8171912590202050310:=0
def PySem.W.Fast.tw15914106227327201106:=0
def PySem.W.Fast.tw6583016776530657649:=0
def PySem.W.Fast.tw4523577315063740736:=0
def PySem.W.Fast.tw7685902908767488631:=0
def PySem.W.Fast.tw12091035336290174454:=0
def PySem.W.Fast.tw4967051600666350225:=0
def PySem.W.Fast.tw14248744955417790064:=0
def PySem.W.Fast.tw5414928844541292811:=0
def PySem.W.Fast.tw13191810947025997233:=0
def PySem.W.Fast.tw16675999435157345538:=0
def PySem.W.Fast.tw1093814137668680408:=0
def PySem.W.Fast.tw13329569008455599381:=0
def PySem.W.Fast.tw15798354349789977195:=0
def PySem.W.Fast.tw9586506600534373602:=0
def PySem.W.Fast.tw11778577201947254835:=0
def PySem.W.Fast.tw4954397546882627847:=0
def PySem.W.Fast.tw6539616403586310549:=0
def PySem.W.Fast.tw13298725690768198344:=0
def PySem.W.Fast.tw788304657570601678:=0
def PySem.W.Fast.tw10337965636081390945:=0
def PySem.W.Fast.tw17039195805763002007:=0
def PySem.W.Fast.tw7137371610341168549:=0
def PySem.W.Fast.tw10195432040764693709:=0
def PySem.W.Fast.tw17223719128871922404:=0
def PySem.W.Fast.tw2376397324551899634:=0
def PySem.W.Fast.tw576938742206847523:=0
def PySem.W.Fast.tw4282500530493067424:=0
def PySem.W.Fast.tw3806698636274603313:=0
def PySem.W.Fast.tw18030442458590695708:=0
def PySem.W.Fast.tw10158700123957772326:=0
def PySem.W.Fast.tw1086214867848169927:=0
def PySem.W.Fast.tw3648754113384081904:=0
def PySem.W.Fast.tw18067610344720198977:=0
def PySem.W.Fast.tw14000968828274394436:=0
def PySem.W.Fast.tw14241366918056957612:=0
def PySem.W.Fast.tw13950355592620557355:=0
def PySem.W.Fast.tw9145724245787915838:=0
def PySem.W.Fast.tw235001118848870093:=0
def PySem.W.Fast.tw5721546300282228418:=0
def PySem.W.Fast.tw1119977544666652504:=0
def PySem.W.Fast.tw2783254043559620233:=0
def PySem.W.Fast.tw1273074905283737302:=0
def PySem.W.Fast.tw7194673596057557748:=0
def PySem.W.Fast.tw10980755681725317402:=0
def PySem.W.Fast.tw2197639035947713997:=0
def PySem.W.Fast.tw8908166095311924552:=0
def PySem.W.Fast.tw12015206509904690000:=0
def PySem.W.Fast.tw17227906963231043438:=0
def PySem.W.Fast.tw13031742596226669368:=0
def PySem.W.Fast.tw10834507822222843256:=0
def PySem.W.Fast.tw2523440145005762126:=0
def PySem.W.Fast.tw10415350496295840605:=0
def PySem.W.Fast.tw9641694696292229244:=0
def PySem.W.Fast.tw14929909758863158303:=0
def PySem.W.Fast.tw14428119794033540469:=0
def PySem.W.Fast.tw1121330676857410151:=0
def PySem.W.Fast.tw2361853140939207955:=0
def PySem.W.Fast.tw10265029558261826647:=0
def PySem.W.Fast.tw5571124991976991527:=0
def PySem.W.Fast.tw7056553907283673279:=0
def PySem.W.Fast.tw12384980355877549665:=0
def PySem.W.Fast.tw4182413130235043532:=0
def PySem.W.Fast.tw10304997816310486582:=0
def PySem.W.Fast.tw6661980735754306035:=0
def PySem.W.Fast.tw12901891214819103541:=0
def PySem.W.Fast.tw10635337868020761326:=0
def PySem.W.Fast.tw3793793333864894939:=0
def PySem.W.Fast.tw1188788154098096748:=0
def PySem.W.Fast.tw483623510220883611:=0
def PySem.W.Fast.tw7572544826713129645:=0
def PySem.W.Fast.tw17883806686724088225:=0
def PySem.W.Fast.tw10260879767987753092:=0
def PySem.W.Fast.tw2012266968996575293:=0
def PySem.W.Fast.tw6851730560144866755:=0
def PySem.W.Fast.tw14164816403416708111:=0
def PySem.W.Fast.tw5420367458902211982:=0
def PySem.W.Fast.tw10496633756437011325:=0
def PySem.W.Fast.tw5337783320371351918:=0
def PySem.W.Fast.tw3142836714420429599:=0
def PySem.W.Fast.tw13663873194514454933:=0
def PySem.W.Fast.tw7769456922625430203:=0
def PySem.W.Fast.tw5745745375427801057:=0
def PySem.W.Fast.tw5677009046347155570:=0
def PySem.W.Fast.tw4232404969797095226:=0
def PySem.W.Fast.tw15337341671787285713:=0
def PySem.W.Fast.tw14892240841271309566:=0
def PySem.W.Fast.tw1363463013473647661:=0
def PySem.W.Fast.tw10520681358956839576:=0
def PySem.W.Fast.tw18122395945994185794:=0
def PySem.W.Fast.tw11913172247315547697:=0
def PySem.W.Fast.tw1937899445815162836:=0
def PySem.W.Fast.tw2039048929196932952:=0
def PySem.W.Fast.tw10458283445297480652:=0
def PySem.W.Fast.tw4595047547566054228:=0
def PySem.W.Fast.tw3473904915961349484:=0
def PySem.W.Fast.tw8473778400808862499:=0
def PySem.W.Fast.tw6624944857038893809:=0
def PySem.W.Fast.tw13229001988255875041:=0
def PySem.W.Fast.tw12968733767770307596:=0
def PySem.W.Fast.tw6747287076111997164:=0
def PySem.W.Fast.tw7358834019264023929:=0
def PySem.W.Fast.tw9631423395068733523:=0
def PySem.W.Fast.tw6021560094302941573:=0
def PySem.W.Fast.tw1388262409691958394:=0
def PySem.W.Fast.tw6916978179789992508:=0
def PySem.W.Fast.tw15132290120101383313:=0
def PySem.W.Fast.tw10580887457619902395:=0
def PySem.W.Fast.tw738628450495546562:=0
def PySem.W.Fast.tw659363616429344855:=0
def PySem.W.Fast.tw2422036963377455997:=0
def PySem.W.Fast.tw5190977349161101429:=0
def PySem.W.Fast.tw14063711178397988625:=0
def PySem.W.Fast.tw13473904809863014083:=0
def PySem.W.Fast.tw12580544145244759110:=0
def PySem.W.Fast.tw12335706241914462982:=0
def PySem.W.Fast.tw5345312520015408667:=0
def PySem.W.Fast.tw16234898269963665686:=0
def PySem.W.Fast.tw13621321892542389187:=0
def PySem.W.Fast.tw17025674576498434937:=0
def PySem.W.Fast.tw479222734851307974:=0
def PySem.W.Fast.tw10848668166623777148:=0
def PySem.W.Fast.tw10492269513268288270:=0
def PySem.W.Fast.tw10850228276821875973:=0
def PySem.W.Fast.tw15693906562051165054:=0
def PySem.W.Fast.tw1120919617903289604:=0
def PySem.W.Fast.tw15967099023160493553:=0
def PySem.W.Fast.tw11506251615295163698:=0
def PySem.W.Fast.tw5082197538314568292:=0
def PySem.W.Fast.tw2943936232849171760:=0
def PySem.W.Fast.tw16986848497629606260:=0
def PySem.W.Fast.tw8582978172698967587:=0
def PySem.W.Fast.tw8559058674516926489:=0
def PySem.W.Fast.tw13858375017283415123:=0
def PySem.W.Fast.tw7623193068416008142:=0
def PySem.W.Fast.tw10998688682738570542:=0
def PySem.W.Fast.tw15049124527947419210:=0
def PySem.W.Fast.tw13720481472393389439:=0
def PySem.W.Fast.tw614419100659723957:=0
def PySem.W.Fast.tw5022686396230076594:=0
def PySem.W.Fast.tw4039063707462317801:=0
def PySem.W.Fast.tw5749438936637882082:=0
def PySem.W.Fast.tw15115236720143914169:=0
def PySem.W.Fast.tw9508228631897423299:=0
def PySem.W.Fast.tw4222903465217244372:=0
def PySem.W.Fast.tw2857376484464317397:=0
def PySem.W.Fast.tw8270743225901957079:=0
def PySem.W.Fast.tw7588950635032120430:=0
def PySem.W.Fast.tw11620539929897021685:=0
def PySem.W.Fast.tw1148051973982987061:=0
def PySem.W.Fast.tw9744441287174087161:=0
def PySem.W.Fast.tw1831845801853911798:=0
def PySem.W.Fast.tw18410407167389099776:=0
def PySem.W.Fast.tw2267314614751653120:=0
def PySem.W.Fast.tw7382263236732198879:=0
def PySem.W.Fast.tw10716771554100302215:=0
def PySem.W.Fast.tw1178760583451543714:=0
def PySem.W.Fast.tw4778007082835997238:=0
def PySem.W.Fast.tw506563528933271166:=0
def PySem.W.Fast.tw7175095002516011820:=0
def PySem.W.Fast.tw8447282199636693433:=0
def PySem.W.Fast.tw13096029903459141418:=0
def PySem.W.Fast.tw11405737669258209730:=0
def PySem.W.Fast.tw6478178155916860220:=0
def PySem.W.Fast.tw9913281825299449456:=0
def PySem.W.Fast.tw12506597206440126788:=0
def PySem.W.Fast.tw3395650103766924127:=0
def PySem.W.Fast.tw4001087025909659343:=0
def PySem.W.Fast.tw2717321254719494149:=0
def PySem.W.Fast.tw12377692701017469845:=0
def PySem.W.Fast.tw5228253096650328981:=0
def PySem.W.Fast.tw625926538349232508:=0
def PySem.W.Fast.tw6491770516190245051:=0
def PySem.W.Fast.tw12231028731045743400:=0
def PySem.W.Fast.tw16013441322775417755:=0
def PySem.W.Fast.tw10231457926557400564:=0
def PySem.W.Fast.tw7779487028030510767:=0
def PySem.W.Fast.tw5601414786961532650:=0
def PySem.W.Fast.tw8613685983711710605:=0
def PySem.W.Fast.tw12721128741851251022:=0
def PySem.W.Fast.tw9196751525606402754:=0
def PySem.W.Fast.tw8016805915670107871:=0
def PySem.W.Fast.tw5464970511289055775:=0
def PySem.W.Fast.tw11033562270948618153:=0
def PySem.W.Fast.tw1292264138239761140:=0
def PySem.W.Fast.tw13230183549651725920:=0
def PySem.W.Fast.tw12253644177307039544:=0
def PySem.W.Fast.tw1867456870036149693:=0
def PySem.W.Fast.tw8107676502080618161:=0
def PySem.W.Fast.tw11197095515421617081:=0
def PySem.W.Fast.tw12654664470920042531:=0
def PySem.W.Fast.tw1430718980454993556:=0
def PySem.W.Fast.tw1329136469080789395:=0
def PySem.W.Fast.tw17463107978468168403:=0
def PySem.W.Fast.tw5045568898401864833:=0
def PySem.W.Fast.tw17997256580608957999:=0
def PySem.W.Fast.tw2110836410434038958:=0
def PySem.W.Fast.tw1714539494690929757:=0
def PySem.W.Fast.tw10013235696578574058:=0
def PySem.W.Fast.tw1303586025985346700:=0
def PySem.W.Fast.tw15049496884992033827:=0
def PySem.W.Fast.tw3130044601098976779:=0
def PySem.W.Fast.tw11834273460928006729:=0
def PySem.W.Fast.tw7194304885814251725:=0
def PySem.W.Fast.tw4410638485315790478:=0
def PySem.W.Fast.tw16429467880513825072:=0
def PySem.W.Fast.tw14421726908090267945:=0
def PySem.W.Fast.tw8771224651853161317:=0
def PySem.W.Fast.tw4608621782659837753:=0
def PySem.W.Fast.tw18164632222843031766:=0
open PySem PySem.W PyProof.Rows L2 My
set_option maxRecDepth 100000 in
set_option maxHeartbeats 0 in
theorem PySem.Challenge.cw_wordboard_s01_answers_holds : PySem.Challenge.rw_wordboard_s01_answers.Holds := by
 w_on;k_headS;(case hw=>exact⟨[.list [.int 1]],by decide+kernel,by decide+kernel⟩)
 k_fillS
 refine My.Lf (r:=PySem.Challenge.rw_wordboard_s01_answers) (k:=13) (CX:=L2.Ut) (ps:=["calls"]) (x:="weightiest_first") (c0:= ?zc) (Pt:= ?zp) (sp:=My.y4 ?zp) (by decide+kernel) rfl rfl ⟨rfl,by decide,by decide⟩ (λw h Y=>PySem.W.kIn_of Y) (by decide+kernel) ?zT ?zN ?zF ?zS (λ_ _ _ _ z=>z)
 case zT=>
  intro w
  refine' My.Lq ?ya ?yl ?yc ?ym ?yh
  (case ya=>k_is);(case yl=>k_is);(case yc=>exact rfl);(case ym=>k_is);(case yh=>exact rfl)
 case zN=>
  intro w
  kernel_rfl
 case zF=>
  intro w mg fa h Y KX G hmg
  clear Y
  have T:kR (PySem.Challenge.cw_wordboard_s01_answers_holds.heap_1 w.params) mg ⟨_,_,_,_,_,_,_,_,_,_,_,_,_,_,_,_,_,_,_,_,_,_,_,_,_,_,_,_,_,_,_,_,_,_,_,_,_,_,_,_,_,_,_,_,_,_,_,_,_,_,_,_,_,_,_,_,_,_,_,_,_,_,_,_,_,_,_,_,_,_,_,_,_,_,_,_,_,_,_,_,_,_,_,_,_,_,_,_,_,_,_, ?zp⟩ ⟨_,_,_,_,_,_,_,_,_,_,_,_,_,_,_,_,_,_,_,_,_,_,_,_,_,_,_,_,_,_,_,_,_,_,_,_,_,_,_,_,_,_,_,_,_,_,_,_,_,_,_,_,_,_,_,_,_,_,_,_,_,_,_,_,_,_,_,_,_,_,_,_,_,_,_,_,_,_,_,_,_⟩:=⟨F1 KX G,F1 KX G,F1 KX G,F1 KX G,F1 KX G,F1 KX G,F1 KX G,wY KX G,wY KX G,wY KX G,wY KX G,wY KX G,wY KX G,wY KX G,wY KX G,wY KX G,wY KX G,wY KX G,wY KX G,wY KX G,wY KX G,wY KX G,wY KX G,wY KX G,wY KX G,wY KX G,wY KX G,wY KX G,wY KX G,IR,wY KX G,IR,IR,wY KX G,wY KX G,wY KX G,wY KX G,wY KX G,wY KX G,wY KX G,wY KX G,wY KX G,wY KX G,wY KX G,wY KX G,wY KX G,wY KX G,IR,IR,IR,IR,IR,wY KX G,wY KX G,wY KX G,wY KX G,wY KX G,wY KX G,wY KX G,wY KX G,IR,IR,IR,IR,IR,wY KX G,IR,IR,IR,IR,IR,IR,IR,IR,IR,IR,IR,IR,IR,wY KX G,wY KX G,IR,IR,IR,IR,IR,IR,IR,Mu,Mu,Mu,Mu,Mu,Mu,Mu,ZT KX G,ZT KX G,ZT KX G,ZT KX G,ZT KX G,ZT KX G,ZT KX G,ZT KX G,mkT KX G,ZT KX G,ZT KX G,ZT KX G,ZT KX G,U3 KX G,U3 KX G,ZT KX G,ZT KX G,ZT KX G,ZT KX G,ZT KX G,ZT KX G,Uw KX G,Uw KX G,Uw KX G,Uw KX G,Uw KX G,Uw KX G,Uw KX G,Uw KX G,Uw KX G,Uw KX G,Uw KX G,Uw KX G,mkL⟩
  have e:=T.answers.mg.symm.trans hmg
  cases e
  exact⟨_,T.answers.b,λbase bb=>Mq T base bb⟩
 case zS=>
  intro K H0 H xs a hsm hP hwi hask hx
  cases hx with
  | cons h1 h2=>
   cases h2
   cases h1 with
   | lst hs ha=>
    have e:=L2.Qj a.1 _ ha
    subst e
    have q:((Codec.inLen 0 30000 a.1&&a.1.all (Codec.inInt (-2147483648) 2147483647))&&true)=true:=hwi
    rw[bH,bH] at q
    exact⟨_,a.1,rfl,L2.aZ.seq hsm hs,(Codec.inNat_iff.mp q.1.1).2,hask,⟨_,hP,.inl rfl⟩,λH' p hp=>.lst (L2.dX.of hp) (L2.Qq _)⟩
