import Derived.Test.YtkdimgejdocbbaaGreatDoorZTpLaw
import Derived.Test.YtkdimgejdocbbaaGreatDoorZTpFacts
import Derived.Test.YtkdimgejdocbbaaGreatDoorCards
import Derived.ProofKit
import Derived.OpenShut
import Derived.MakeChecks
import Derived.Deep.Slices
import Derived.Deep.Strs
import Derived.Test.YtkdimgejdocbbaaGreatDoorTie
import Derived.Deep.DeepHandedRow
import Derived.Lib.LaidTab
set_option maxRecDepth 100000
open Go.Value renaming slice->Z,string->U,int->Q
open Option renaming none->Y,some->N
open Go.IntKind renaming i64->I
open Go renaming World->E,Value->QB,TypeId->QF
open Bool renaming false->D,true->QC
namespace Go.Proofs.YtkdimgejdocbbaaGreatDoor.Tpc
open Go.ChangeShapes Go.WideShapes Go.ChangeAt RowKit Go.Deep Vp
abbrev tI:String:=Rows.fnTopSpec.vars.headD default
theorem cells3:Tryz.prog.cellsOf 3=1:=by kernel_rfl
theorem DZ:Tryz.prog.cellsOf 266=5:=by kernel_rfl
theorem gRows:Tryz.prog.globalNamed tI=N 0:=by kernel_rfl
theorem tRows:(Tryz.prog.globals[0]?).map (·.type)=N 267:=by kernel_rfl
theorem tPow:(Tryz.prog.globals[2]?).map (·.type)=N 362:=by kernel_rfl
theorem Cg:Tryz.prog.cellsOf 362=20:=by kernel_rfl
theorem Ch:Tryz.prog.cellsOf 328=1:=by kernel_rfl
theorem Ey:∀ k:Nat,k<16->∃ (s:DataW Unit) (L:List (DataW Unit)),Rows.laid_loop_example_kilndeed_impl_rows=.agg L/\L[k]?=N (.agg [s,.lit (Q I (bP k)),.lit (Q I (dK k)),.lit (Q I (aM k)),.lit (Q I (bG k))]):=by intro k hk;rcases(show k=0∨k=1∨k=2∨k=3∨k=4∨k=5∨k=6∨k=7∨k=8∨k=9∨k=10∨k=11∨k=12∨k=13∨k=14∨k=15 by omega) with rfl | rfl | rfl | rfl | rfl | rfl | rfl | rfl | rfl | rfl | rfl | rfl | rfl | rfl | rfl | rfl;all_goals exact⟨_,_,rfl,rfl⟩
theorem gU {b:List QB}{o j:Nat}{v:QB}(d:j<5)(h:(((b.drop o).take 5).drop j).take 1=[v]):b[o+j]?=N v:=by
 have h2:((((b.drop o).take 5).drop j).take 1)[0]?=N v:=by rw[h];rfl
 simpa[NI,d] using h2
theorem vH {W:E}{enc:QF × QB->Unit}{sp:Nat->Bool}{t:Bool}{z:Nat}{d:Array QB}{p:List MemPlace}(f:W.var? Tryz.prog tI=N d)
  (QQ:DataW.trod enc Tryz.prog W 0 sp t z 267 d.toList=N (Rows.laid_loop_example_kilndeed_impl_rows,p)):Tab W/\Tab2 W:=by
 obtain⟨xs,m,_,u,_,hn,l⟩:=DataW.trod_array Tryz.underlying267 QQ;rw[DZ] at l;have i:∀ k,k<16->d.toList[k*5+1]?=N (Q I (bP k))/\d.toList[k*5+2]?=N (Q I (dK k))/\d.toList[k*5+3]?=N (Q I (aM k))/\d.toList[k*5+4]?=N (Q I (bG k)):=by
  intro k g;obtain⟨s,L,hL,o⟩:=Ey k g;rw[hL] at u;simp only[C9,DataW.agg.injEq] at u;have b:=l k g;rw[u.1,IE] at o;obtain⟨y,P,r⟩:=KJ.1 o;rw[P] at b;obtain⟨h,n,_,B,_,_,j⟩:=DataW.trod_struct Tryz.underlying266 b;have hz:h.map (·.1)=[s,.lit (Q I (bP k)),.lit (Q I (dK k)),.lit (Q I (aM k)),.lit (Q I (bG k))]:=by rw[B] at r;simpa using r
  have h1:DataW.trod _ Tryz.prog W 0 _ _ n 3 ((((d.toList.drop (k*5)).take 5).drop 1).take (Tryz.prog.cellsOf 3))=h[1]?:=j 1 _ rfl;have h2:DataW.trod _ Tryz.prog W 0 _ _ n 3 ((((d.toList.drop (k*5)).take 5).drop 2).take (Tryz.prog.cellsOf 3))=h[2]?:=j 2 _ rfl;have C:DataW.trod _ Tryz.prog W 0 _ _ n 3 ((((d.toList.drop (k*5)).take 5).drop 3).take (Tryz.prog.cellsOf 3))=h[3]?:=j 3 _ rfl;have G:DataW.trod _ Tryz.prog W 0 _ _ n 3 ((((d.toList.drop (k*5)).take 5).drop 4).take (Tryz.prog.cellsOf 3))=h[4]?:=j 4 _ rfl;rw[cells3] at h1 h2 C G;match h,hz with
  | [y0,y1,y2,y3,y4],hz =>
   simp only[LG,LV,List.cons.injEq,and_true] at hz;obtain⟨z1,A,R,_⟩:=MH Tryz.underlying3 (show DataW.trod _ Tryz.prog W 0 _ _ n 3 _=N y1 from h1);obtain⟨z2,QO,QL,_⟩:=MH Tryz.underlying3 (show DataW.trod _ Tryz.prog W 0 _ _ n 3 _=N y2 from h2);obtain⟨z3,H,QK,_⟩:=MH Tryz.underlying3 (show DataW.trod _ Tryz.prog W 0 _ _ n 3 _=N y3 from C);obtain⟨K,QN,QM,_⟩:=MH Tryz.underlying3 (show DataW.trod _ Tryz.prog W 0 _ _ n 3 _=N y4 from G);have O:z1=bP k:=by have:=hz.2.1;rw[R] at this;simpa using this
   have S:z2=dK k:=by have:=hz.2.2.1;rw[QL] at this;simpa using this
   have QJ:z3=aM k:=by have:=hz.2.2.2.1;rw[QK] at this;simpa using this
   have M:K=bG k:=by have:=hz.2.2.2.2;rw[QM] at this;simpa using this
   rw[O] at A;rw[S] at QO;rw[QJ] at H;rw[M] at QN;exact⟨gU (by omega) A,gU (by omega) QO,gU (by omega) H,gU (by omega) QN⟩
 have q:0<W.heap.size:=by
  have QP:=KM gRows f 1;have:=(i 0 (by omega)).1;simp only[LZ,DC,IP] at this;rw[this] at QP;rcases IX 0 W.heap.size with x | x
  ·exact x
  ·simp[World.cell?,JF x] at QP
 refine⟨⟨q,fun k g=>?_⟩,⟨q,fun k g=>?_⟩⟩
 ·have c1:=KM gRows f (k*5+1)
  have c2:=KM gRows f (k*5+2);have b:=i k g;simp only[IP] at b;exact⟨c1.trans b.1,c2.trans b.2.1⟩
 ·have c3:=KM gRows f (k*5+3)
  have c4:=KM gRows f (k*5+4);have b:=i k g;simp only[IP] at b;exact⟨c3.trans b.2.2.1,c4.trans b.2.2.2⟩
theorem Ez {W:E}{enc:QF × QB->Unit}{sp:Nat->Bool}{d:Bool}{b:Nat}{f:Array QB}{p:List MemPlace}(h:W.var? Tryz.prog "internal/strconv.uint64pow10"=N f)
  (g:DataW.trod enc Tryz.prog W 0 sp d b 362 f.toList=N (Rows.laid_internal_strconv_uint64pow10,p)):Pow W:=by
 have e:=Lib.cells_of_tab (k:=.u64) (zs:=Lib.pow10Tab) Tryz.underlying362 Tryz.underlying328 Ch Cg g;show W.var? Tryz.prog _=N _;rw[h,<-e]
theorem tables {W:E}(h:laidMetH Tryz.prog Rows.fnTopRow.laid W):Tab W/\Tab2 W/\Pow W:=by rw[MakeChecks.laidMetH_plain _ _ _ (by kernel_rfl)] at h;obtain⟨ps,⟨g0,t0,cs0,f0,p0,q0,hg0,ht0,hv0,hd0,⟨g1,t1,cs1,f1,p1,q1,hg1,ht1,hv1,hd1,⟨g2,t2,cs2,f2,p2,q2,f,g,j,k,⟨g3,t3,cs3,f3,p3,q3,hg3,ht3,hv3,hd3,⟨g4,t4,cs4,f4,p4,q4,i,l,d,b,_,_⟩,_⟩,_⟩,_⟩,_⟩,_,_⟩:=h;obtain rfl:=H8 (gPow.symm.trans f);obtain rfl:=H8 (tPow.symm.trans g);obtain rfl:=H8 (gRows.symm.trans i);obtain rfl:=H8 (tRows.symm.trans l);exact⟨(vH d b).1,(vH d b).2,Ez j k⟩
theorem own:ownKnob Tryz.prog.godebug=Y:=by kernel_rfl
theorem laidOut:laidOutB Tryz.prog=QC:=by kernel_rfl
theorem Ea:Tryz.prog.cellsOf 5=1:=by kernel_rfl
theorem oU {H:Type}{enc:QF × QB->H}{W:E}{x:Nat}{v:QB}{d:DataW H}{p:List MemPlace}(L:Value.okWide Tryz.prog W .any x 22 v)
  (h:DataW.Trod enc Tryz.prog W 0 (fun _=>QC) QC 22 v d p) :
  ∃ a n j,v=Z a n j/\(n:Int)<=9223372036854775807/\n<=j/\ByteSl W a n:=by
 obtain⟨a0,n0,c0,rfl⟩:=okWide_slice Tryz.underlying22 L;obtain⟨fuel,K⟩:=h;rcases open_slice1 Tryz.underlying22 Ea K with ⟨l,_⟩ | ⟨a,len,j,m,k,V,QQ,Pl,l,hb,B,G,A,_,g⟩
 ·simp[Value.cells] at l
  obtain⟨rfl,rfl,rfl⟩:=l;exact⟨Y,0,0,rfl,by omega,by omega,.inl rfl⟩
 ·simp[Value.cells] at l
  obtain⟨rfl,rfl,rfl⟩:=l;have r:m=c0:=by simpa using A
  subst r;have t:(n0:Int)<=9223372036854775807:=by unfold maxLen at G;omega
  refine⟨_,n0,m,rfl,t,B,?_⟩;by_cases hz:n0=0
  ·exact .inl hz
  ·obtain⟨b,off,s⟩:=a
   have o:s=Y:=by simpa[Addr.add] using World.cell?_spot (g 0 (by omega)).1
   subst o;refine .inr ⟨b,off,rfl,?_,fun i hi=>?_⟩
   ·have:=World.block_lt_of_cell? W _ (g 0 (by omega)).1
    simpa[Addr.add] using this
   ·obtain⟨f,C⟩:=g i (by omega)
    obtain⟨z,y,_,QN⟩:=MH Tryz.underlying5 C;rw[add_plain] at f;simp at y;rw[y] at f;have QP:0<=z/\z<256:=by
     have q:(decide (IntKind.u8.min<=z) && decide (z<=IntKind.u8.max))=QC:=QN;simp only[gM,j4] at q;have m0:IntKind.u8.min=0:=by decide
     have QO:IntKind.u8.max=255:=by decide
     rw[m0,QO] at q;omega
    obtain⟨u,rfl⟩:=x4 QP.1;exact⟨u,by omega,f⟩
theorem Ci (H:Type)(enc:QF × QB->H)(W:E)(u:Nat)(args:Array QB)(L gs:List (DataW H))(k:List MemPlace)
  (f:∀ (j:Nat) t v,Tryz.f8.params[j]?=N t->args[j]?=N v->Value.okWide Tryz.prog W .any u t v)
  (M:DataW.Whole enc Tryz.prog Tryz.f8.params.toList Rows.fnTopSpec.vars D W args.toList L gs k) (hL:laidMetH Tryz.prog Rows.fnTopRow.laid W) :
  Calls Tryz.prog 8 args W fun e K=>∃ v,e=.returned v/\Rows.fnTopSpec.post enc Tryz.prog Tryz.f8 D QC D D W args v K:=by
 have o:=M;obtain⟨p,q,QQ,O,rfl,hfz,hnd⟩:=M;have QN:DataW.TrodAll enc Tryz.prog W 0 (fun _=>QC) QC Tryz.f8.params.toList args.toList L p:=QQ;rw[Tryz.params8] at QN f;obtain⟨QO,vs0,d0,ds0,QK,q0,hargs,rfl,rfl,G,r0⟩:=trodAll_cons QN;obtain⟨A,vs1,d1,ds1,QM,q1,rfl,rfl,rfl,h1,r1⟩:=trodAll_cons r0;obtain⟨rfl,rfl,rfl⟩:=trodAll_nil r1;obtain rfl:args=#[QO,A]:=by cases args;simp_all
 obtain⟨g,t,V,fuel,dg,pg,rfl,s,r,QG,X,rfl⟩:=trodVars_one O;have i:=o.lt;obtain⟨a,n,QP,rfl,hn,QJ,P⟩:=oU (f 0 22 QO rfl rfl) G;obtain⟨b,m,y,rfl,hm,z,C⟩:=oU (f 1 22 A rfl rfl) h1;obtain⟨S,QL,R⟩:=tables hL;refine(DY a n QP b m y W QJ z P C S QL R).mono fun e K ⟨QH,l⟩=>?_;subst QH;refine⟨_,rfl,_,_,_,[],QK++(QM++[]),MemPlace.row ⟨g,0,Y⟩ V.size++pg,o,?_,?_,?_,l.frame _,fun h=>by cases h⟩
 ·exact trodAll_cons_mk (shut_bool Tryz.underlying4 _) trodAll_mk0
 ·exact trodAll_cons_mk (Below.trod laidOut (by kernel_rfl) (IW (by kernel_rfl)) G l (fun x d=>i x (by simp[d]))) (trodAll_cons_mk (Below.trod laidOut (by kernel_rfl) (IW (by kernel_rfl)) h1 l (fun x d=>i x (by simp[d]))) trodAll_mk0)
 ·have e:t=267:=by rw[H8 (s.symm.trans gRows)] at r;exact H8 (r.symm.trans tRows)
  subst e;have B:∀ x∈pg,x.block<W.heap.size:=fun x d=>i x (by simp[d])
  exact trodVars_mk1 s r (Joins.var_stays s QG l lr)
   (DataW.trod_stays (kids_book laidOut (by kernel_rfl)) (book_sized (by kernel_rfl)) (fun h=>by cases h) ⟨IW (by kernel_rfl),book_self 267⟩ X (fun x d=>l.same (B x d)) (fun x d=>by simpa using B x d))
def put (b:Array QB):Obj->Obj
 | .cells _ t frozen=>.cells b t frozen
 | o=>o
def firstCells:Array QB:=(Go.Pinned.utf8FirstZ.map (fun z:Nat=>Value.int .u8 (z:Int))).toArray
abbrev EC:Array QB:=#[Z Y 0 0,Z Y 0 0]
theorem lifted (os:Os)(b:os.Started)(H:Type)(enc:QF × QB->H)(F:Stop.Interp):ReturnsInHanded {} Tryz.checked os 8 .any ((OpenSpec.ofChange Rows.fnTopSpec).preRow enc Tryz.prog Tryz.f8 Rows.fnTopRow.domain D Rows.fnTopRow.laid) (((OpenSpec.ofChange Rows.fnTopSpec).at F).post enc Tryz.prog Tryz.f8 D QC D D):=by
 refine returnsInHanded_of_row (C:=Tryz.checked) (s:=OpenSpec.ofChange Rows.fnTopSpec) own b (by kernel_rfl) Tryz.func8
  (witness_row_at (enc:=enc) (C:=Tryz.checked) D
   ({ World.holding Tryz.prog os ⟨#[],#[],[]⟩ with heap:=Array.modify (Array.modify (Array.modify (Array.modify (Array.modify (Array.modify (World.holding Tryz.prog os ⟨#[],#[],[]⟩).heap 0 (put #[U ⟨#[]⟩,Q I 0,Q I 0,Q I 0,Q I 0,U ⟨#[108,105,116]⟩,Q I 2000,Q I 0,Q I 0,Q I 1,U ⟨#[99,97,116]⟩,Q I 0,Q I 0,Q I 2,Q I 1,U ⟨#[99,117,116]⟩,Q I 0,Q I 2000,Q I 1,Q I 1,U ⟨#[114,101,115,116]⟩,Q I 0,Q I 2000,Q I 1,Q I 1,U ⟨#[119,111,114,100]⟩,Q I 0,Q I 2000,Q I 1,Q I 1,U ⟨#[115,97,109,101]⟩,Q I 0,Q I 0,Q I 2,Q I 1,U ⟨#[100,117,112]⟩,Q I 0,Q I 0,Q I 1,Q I 2,U ⟨#[115,119,97,112]⟩,Q I 0,Q I 0,Q I 2,Q I 2,U ⟨#[100,114,111,112]⟩,Q I 0,Q I 0,Q I 1,Q I 0,U ⟨#[106,117,109,112]⟩,Q I 0,Q I 200,Q I 0,Q I 0,U ⟨#[117,110,108,101,115,115]⟩,Q I 0,Q I 200,Q I 1,Q I 0,U ⟨#[97,115,107]⟩,Q I 0,Q I 0,Q I 1,Q I 1,U ⟨#[104,97,115]⟩,Q I 0,Q I 0,Q I 1,Q I 1,U ⟨#[102,97,105,108]⟩,Q I 0,Q I 0,Q I 1,Q I 0,U ⟨#[101,110,100]⟩,Q I 0,Q I 0,Q I 1,Q I 0])) 2 (put #[Q .u64 1,Q .u64 10,Q .u64 100,Q .u64 1000,Q .u64 10000,Q .u64 100000,Q .u64 1000000,Q .u64 10000000,Q .u64 100000000,Q .u64 1000000000,Q .u64 10000000000,Q .u64 100000000000,Q .u64 1000000000000,Q .u64 10000000000000,Q .u64 100000000000000,Q .u64 1000000000000000,Q .u64 10000000000000000,Q .u64 100000000000000000,Q .u64 1000000000000000000,Q .u64 10000000000000000000])) 5 (put #[Q .u8 0,Q .u8 1,Q .u8 28,Q .u8 2,Q .u8 29,Q .u8 14,Q .u8 24,Q .u8 3,Q .u8 30,Q .u8 22,Q .u8 20,Q .u8 15,Q .u8 25,Q .u8 17,Q .u8 4,Q .u8 8,Q .u8 31,Q .u8 27,Q .u8 13,Q .u8 23,Q .u8 21,Q .u8 19,Q .u8 16,Q .u8 7,Q .u8 26,Q .u8 12,Q .u8 18,Q .u8 6,Q .u8 11,Q .u8 5,Q .u8 10,Q .u8 9])) 6 (put #[Q .u8 0,Q .u8 1,Q .u8 56,Q .u8 2,Q .u8 57,Q .u8 49,Q .u8 28,Q .u8 3,Q .u8 61,Q .u8 58,Q .u8 42,Q .u8 50,Q .u8 38,Q .u8 29,Q .u8 17,Q .u8 4,Q .u8 62,Q .u8 47,Q .u8 59,Q .u8 36,Q .u8 45,Q .u8 43,Q .u8 51,Q .u8 22,Q .u8 53,Q .u8 39,Q .u8 33,Q .u8 30,Q .u8 24,Q .u8 18,Q .u8 12,Q .u8 5,Q .u8 63,Q .u8 55,Q .u8 48,Q .u8 27,Q .u8 60,Q .u8 41,Q .u8 37,Q .u8 16,Q .u8 46,Q .u8 35,Q .u8 44,Q .u8 21,Q .u8 52,Q .u8 32,Q .u8 23,Q .u8 11,Q .u8 54,Q .u8 26,Q .u8 40,Q .u8 15,Q .u8 34,Q .u8 20,Q .u8 31,Q .u8 10,Q .u8 25,Q .u8 14,Q .u8 19,Q .u8 9,Q .u8 13,Q .u8 8,Q .u8 7,Q .u8 6])) 4 (put #[Q .u8 128,Q .u8 191,Q .u8 160,Q .u8 191,Q .u8 128,Q .u8 159,Q .u8 144,Q .u8 191,Q .u8 128,Q .u8 143,Q .u8 0,Q .u8 0,Q .u8 0,Q .u8 0,Q .u8 0,Q .u8 0,Q .u8 0,Q .u8 0,Q .u8 0,Q .u8 0,Q .u8 0,Q .u8 0,Q .u8 0,Q .u8 0,Q .u8 0,Q .u8 0,Q .u8 0,Q .u8 0,Q .u8 0,Q .u8 0,Q .u8 0,Q .u8 0])) 3 (put firstCells) }:E)
   EC rfl (by kernel_rfl) (by kernel_rfl) (by kernel_rfl)
   (OpenSpec.preRow_of_cond 8 (x:=([.nil,.nil],[Rows.laid_loop_example_kilndeed_impl_rows],MemPlace.row ⟨0,0,Y⟩ 80)) (by kernel_rfl) (by kernel_rfl) (fun k j=>by cases j) (by kernel_rfl) (laidMet_of_run' 8 (by kernel_rfl) (by kernel_rfl)))) ?_
 intro W g args h l d f i _ _ _ hL _ _;exact Ci H enc W g args h l d f i hL
theorem said:Rows.FnTopSaid :=
 OpenClaim.holds_of_cond 8 Tryz.f8 rfl rfl rfl rfl rfl rfl rfl ⟨rfl,rfl,rfl,rfl,rfl⟩ rfl rfl rfl rfl rfl (by kernel_rfl) Tryz.func8 facts
  (IW (by kernel_rfl)) (by unfold Func.isWrapper;first | (rw[eT (by decide +kernel)];kernel_rfl) | (rw[a8 (by decide +kernel)];exact⟨rfl,rfl⟩))
  (fun os b H enc _ F=>by rw[OpenClaim.pre_eq_preRow];exact lifted os b H enc F)
theorem plain (f:FuncId)(fn:Func)(g:Tryz.pinned.checked.prog.funcNamed Rows.fnTopRow.func=N f)(b:Tryz.pinned.checked.prog.funcs[f]?=N fn):QC=Tryz.pinned.checked.prog.looks []/\∀ (j:Nat) t,fn.params[j]?=N t->Tryz.pinned.checked.prog.wantsStandIn t=D:=by
 obtain rfl:f=8:=H8 ((show Tryz.prog.funcNamed Rows.fnTopRow.func=N 8 by kernel_rfl).symm.trans g) |>.symm;obtain rfl:fn=Tryz.f8:=(H8 (Tryz.func8.symm.trans b)).symm;refine⟨by kernel_rfl,fun j t d=>?_⟩;rw[Tryz.params8] at d;obtain rfl:t=22:=by simpa using Array.mem_of_getElem? d
 exact(show Tryz.prog.wantsStandIn 22=D by kernel_rfl)
theorem card:Rows.FnTopCardSaid :=
 Claim7.holds_tied_plain_at .later [] _ _ _ _ said (fun _ h=>by cases h) (by kernel_rfl) (fun _ h=>by cases h) fnTop_row_tie rfl ⟨rfl,rfl⟩ (by kernel_rfl) rfl plain (by kernel_rfl)
end Go.Proofs.YtkdimgejdocbbaaGreatDoor.Tpc
namespace Go.Proofs.YtkdimgejdocbbaaGreatDoor
theorem fnTop_card:Rows.FnTopCardSaid:=Tpc.card
#print axioms fnTop_card
end Go.Proofs.YtkdimgejdocbbaaGreatDoor
