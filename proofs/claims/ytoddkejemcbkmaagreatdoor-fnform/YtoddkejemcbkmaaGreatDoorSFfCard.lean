import Derived.Test.YtoddkejemcbkmaaGreatDoorSFfList
import Derived.Test.YtoddkejemcbkmaaGreatDoorSFfFacts
import Derived.Test.YtoddkejemcbkmaaGreatDoorCards
import Derived.Deep.Slices
import Derived.Deep.Strs
set_option maxRecDepth 100000
open Go renaming Addr.mk->Q,Obj.cells->N,IntKind.i64->I,World->M,Value->ZC,TypeId->ZH,Proofs.Tryz.prog->Pg
open Option renaming none->Y,some->T
open Bool renaming false->ZA,true->ZG
namespace Go.Proofs.YtoddkejemcbkmaaGreatDoor.Ffc
open Go.ChangeShapes Go.WideShapes Go.ChangeAt RowKit Go.Deep Vp
theorem vv {H:Type}{enc:ZH × ZC->H}{W:M}{sp:Nat->Bool}:∀{b:List String} {c:List (DataW H)} {q:List MemPlace},DataW.TrodVars enc Pg W sp b c q->c.length=b.length
 |[],[],_,_=>rfl
 |_::b,_::c,_,h=>by obtain⟨_,_,_,_,_,q,_,_,_,_,h1,_⟩:=h;simp only[eT];rw[vv h1]
 |[],_::_,_,h=>h.elim
 |_::_,[],_,h=>h.elim
def kK (n:String):Prop:=∀g t,Pg.globalNamed n=T g->(Pg.globals[g]?).map (·.type)=T t->Pg.readableRec t=ZG/\t<Pg.types.size
theorem nN {n:String}{g:Nat}(b:Pg.globalNamed n=T g)(c:(Pg.globals[g]?).map (·.type)=T 69):kK n:=λg' t' h1 h2=>by obtain rfl:=BO (b.symm.trans h1);obtain rfl:=BO (c.symm.trans h2);exact⟨by kernel_rfl,OH (by kernel_rfl)⟩
theorem Jd:kK pi:=λg' t' h1 h2=>by obtain rfl:=BO (gRows.symm.trans h1);obtain rfl:=BO (tRows.symm.trans h2);exact⟨by kernel_rfl,OH (by kernel_rfl)⟩
theorem sC {H:Type}{enc:ZH × ZC->H}{W o:M}(j:Below W.heap.size W o):∀{f:List String} {l:List (DataW H)} {q:List MemPlace},(∀n∈f,kK n)->DataW.TrodVars enc Pg W (λ_=>ZG) f l q->(∀x∈q,x.block<W.heap.size)->DataW.TrodVars enc Pg o (λb=>decide (b<W.heap.size)) f l q
 |[],[],_,_,h,_=>h
 |n::f,d::l,q,hf,h,hl=>by obtain⟨g,t,u,i,p,A,h1,h2,h3,h4,B,rfl⟩:=h;obtain⟨r,y⟩:=hf n (by simp) g t h1 h2;have s:∀x∈p,x.block<W.heap.size:=λx c=>hl x (by simp[c]);refine⟨g,t,u,i,p,A,h1,h2,Joins.var_stays h1 h3 j ly,?_,sC j (λm z=>hf m (by simp[z])) B (λx c=>hl x (by simp[c])),rfl⟩;exact DataW.trod_stays (kids_book laidOut r) (book_sized r) (λh=>by cases h) ⟨y,book_self t⟩ h4 (λx c=>j.same (s x c)) λx c=>by simpa using s x c
 |[],_::_,_,_,h,_=>h.elim
 |_::_,[],_,_,h,_=>h.elim
theorem Hj:∀n∈Rows.fnFormSpec.vars,kK n:=by
 intro n hn;have hn:n∈["loop.example/kilndeed/impl.rows","loop.example/kilndeed/impl.errWord","loop.example/kilndeed/impl.errNumber","loop.example/kilndeed/impl.errQuote","loop.example/kilndeed/impl.errNoTarget","loop.example/kilndeed/impl.errOperand","loop.example/kilndeed/impl.errBound"]:=hn;simp only[A9,nj,PS] at hn;rcases hn with rfl|rfl|rfl|rfl|rfl|rfl|rfl;{exact Jd};{exact nN su sw};{exact nN ou ox};{exact nN qk qn};{exact nN mz mB};{exact nN nr nu};{exact nN qp qq}
theorem Hk:Pg.cellsOf 5=1:=by kernel_rfl
theorem zJ {H:Type}{enc:ZH × ZC->H}{W:M}{s:Nat}{v:ZC}{d:DataW H}{p:List MemPlace}(ZP:Value.okWide Pg W .any s 22 v)
  (h:DataW.Trod enc Pg W 0 (λ_=>ZG) ZG 22 v d p) :
  ∃a n cap,v=.slice a n cap/\(n:Int)<=9223372036854775807/\n<=cap/\ByteSl W a n:=by
 obtain⟨a0,n0,c0,rfl⟩:=okWide_slice MF ZP;obtain⟨fuel,G⟩:=h;rcases open_slice1 MF Hk G with ⟨g,_⟩|⟨a,len,cap,m,k,V,D,Pl,g,hb,y,F,x,_,f⟩
 {simp[Value.cells] at g;obtain⟨rfl,rfl,rfl⟩:=g;exact⟨Y,0,0,rfl,by omega,by omega,.inl rfl⟩}
 ·simp[Value.cells] at g;obtain⟨rfl,rfl,rfl⟩:=g;have o:m=c0:=by simpa using x
  subst o;have r:(n0:Int)<=9223372036854775807:=by unfold maxLen at F;omega
  refine⟨_,n0,m,rfl,r,y,?_⟩;by_cases hz:n0=0;{exact .inl hz}
  ·obtain⟨b,off,q⟩:=a;have j:q=Y:=by simpa[Addr.add] using World.cell?_spot (f 0 (by omega)).1
   subst j;refine .inr ⟨b,off,rfl,?_,λi hi=>?_⟩;{have:=World.block_lt_of_cell? W _ (f 0 (by omega)).1;simpa[Addr.add] using this}
   ·obtain⟨c,B⟩:=f i (by omega);obtain⟨z,t,_,E⟩:=DataW.trod_int ND B;rw[add_plain] at c;simp at t;rw[t] at c;have C:0<=z/\z<256:=by
     have l:(decide (IntKind.u8.min<=z) && decide (z<=IntKind.u8.max))=ZG:=E;simp only[zA,z8] at l;have m0:IntKind.u8.min=0:=by decide
     have A:IntKind.u8.max=255:=by decide
     rw[m0,A] at l;omega
    obtain⟨u,rfl⟩:=BC C.1;exact⟨u,by omega,c⟩
theorem Fx (H:Type)(enc:ZH × ZC->H)(W:M)(s:Nat)(args:Array ZC)(D r:List (DataW H))(f:List MemPlace)
  (c:∀(j:Nat) t v,Tryz.f3.params[j]?=T t->args[j]?=T v->Value.okWide Pg W .any s t v)
  (y:DataW.Whole enc Pg Tryz.f3.params.toList Rows.fnFormSpec.vars ZA W args.toList D r f) (hL:laidMetH Pg Rows.fnFormRow.laid W) :
  Calls Pg 3 args W λe z=>∃v,e=.returned v/\Rows.fnFormSpec.post enc Pg Tryz.f3 ZA ZG ZA ZA W args v z:=by
 have b:=y;obtain⟨p,q,A,g,rfl,hfz,hnd⟩:=y;have u:DataW.TrodAll enc Pg W 0 (λ_=>ZG) ZG Tryz.f3.params.toList args.toList D p:=A;rw[Tryz.params3] at u c;obtain⟨C,vs0,d0,ds0,G,q0,hargs,rfl,rfl,B,r0⟩:=trodAll_cons u;obtain⟨rfl,rfl,rfl⟩:=trodAll_nil r0;obtain rfl:args=#[C]:=by cases args;simp_all
 have i:=b.lt;have m:r.length=7:=vv g;obtain⟨a,n,cap,rfl,hn,ZO,E⟩:=zJ (c 0 22 C rfl rfl) B;obtain⟨K,F⟩:=tables hL;refine(Fu a n cap W hn ZO E K F).mono λe z ⟨ZP,o⟩=>?_;subst ZP;match r,m,g,b with
 |[x1,x2,x3,x4,x5,x6,x7],_,g,b =>
  refine⟨_,rfl,_,_,_,[],G++[],q,b,?_,?_,?_,o.frame _,λh=>by cases h⟩;{exact trodAll_cons_mk (shut_bool QN _) trodAll_mk0};{exact trodAll_cons_mk (Below.trod laidOut (by kernel_rfl) (OH (by kernel_rfl)) B o (λx l=>i x (by simp[l]))) trodAll_mk0};{exact sC o Hj g λx l=>i x (by simp[l])}
def put (b:Array ZC):Obj->Obj
 |N _ t frozen=>N b t frozen
 |o=>o
abbrev II:Array ZC:=#[.slice Y 0 0]
theorem lifted (os:Os)(b:os.Started)(H:Type)(enc:ZH × ZC->H)(F:Stop.Interp):ReturnsInHanded {} Tryz.checked os 3 .any ((OpenSpec.ofChange Rows.fnFormSpec).preRow enc Pg Tryz.f3 Rows.fnFormRow.domain ZA Rows.fnFormRow.laid) (((OpenSpec.ofChange Rows.fnFormSpec).at F).post enc Pg Tryz.f3 ZA ZG ZA ZA):=by
 refine returnsInHanded_of_row (C:=Tryz.checked) (s:=OpenSpec.ofChange Rows.fnFormSpec) own b (by kernel_rfl) VL
  (witness_row_at (enc:=enc) (C:=Tryz.checked) ZA ({ World.holding Pg os ⟨#[N #[.string ⟨#[110,111,32,119,111,114,100,32,111,102,32,97,110,32,105,110,115,116,114,117,99,116,105,111,110]⟩] 260,N #[.string ⟨#[110,111,32,100,101,99,105,109,97,108,32,97,115,32,105,116,32,105,115,32,119,114,105,116,116,101,110]⟩] 260,N #[.string ⟨#[110,111,32,116,101,120,116,32,105,110,32,113,117,111,116,101,115,32,97,115,32,105,116,32,105,115,32,119,114,105,116,116,101,110]⟩] 260,N #[.string ⟨#[97,32,108,105,110,101,32,111,102,32,97,32,116,97,114,103,101,116,32,97,104,101,97,100,32,111,102,32,97,108,108,32,100,101,101,100,115]⟩] 260,N #[.string ⟨#[97,110,32,111,112,101,114,97,110,100,32,116,104,97,116,32,116,104,101,32,119,111,114,100,32,100,111,101,115,32,110,111,116,32,104,97,118,101]⟩] 260,N #[.string ⟨#[97,110,32,111,112,101,114,97,110,100,32,111,117,116,32,111,102,32,105,116,115,32,98,111,117,110,100,115]⟩] 260,N #[.string ⟨#[118,97,108,117,101,32,111,117,116,32,111,102,32,114,97,110,103,101]⟩] 260,N #[.string ⟨#[105,110,118,97,108,105,100,32,115,121,110,116,97,120]⟩] 260],#[],[]⟩ with heap:=(Array.modify (Array.modify (Array.modify (Array.modify (Array.modify (Array.modify (Array.modify (Array.modify (Array.modify (Array.modify (Array.modify (Array.modify (World.holding Pg os ⟨#[N #[.string ⟨#[110,111,32,119,111,114,100,32,111,102,32,97,110,32,105,110,115,116,114,117,99,116,105,111,110]⟩] 260,N #[.string ⟨#[110,111,32,100,101,99,105,109,97,108,32,97,115,32,105,116,32,105,115,32,119,114,105,116,116,101,110]⟩] 260,N #[.string ⟨#[110,111,32,116,101,120,116,32,105,110,32,113,117,111,116,101,115,32,97,115,32,105,116,32,105,115,32,119,114,105,116,116,101,110]⟩] 260,N #[.string ⟨#[97,32,108,105,110,101,32,111,102,32,97,32,116,97,114,103,101,116,32,97,104,101,97,100,32,111,102,32,97,108,108,32,100,101,101,100,115]⟩] 260,N #[.string ⟨#[97,110,32,111,112,101,114,97,110,100,32,116,104,97,116,32,116,104,101,32,119,111,114,100,32,100,111,101,115,32,110,111,116,32,104,97,118,101]⟩] 260,N #[.string ⟨#[97,110,32,111,112,101,114,97,110,100,32,111,117,116,32,111,102,32,105,116,115,32,98,111,117,110,100,115]⟩] 260,N #[.string ⟨#[118,97,108,117,101,32,111,117,116,32,111,102,32,114,97,110,103,101]⟩] 260,N #[.string ⟨#[105,110,118,97,108,105,100,32,115,121,110,116,97,120]⟩] 260],#[],[]⟩).heap 0 (put #[.iface 258 (.pointer (T (Q (13+5) 0 Y)))])) 4 (put #[.iface 258 (.pointer (T (Q (13+6) 0 Y)))])) 5 (put #[.iface 258 (.pointer (T (Q (13+7) 0 Y)))])) 2 (put #[.iface 258 (.pointer (T (Q (13+8) 0 Y)))])) 6 (put #[.iface 258 (.pointer (T (Q (13+9) 0 Y)))])) 7 (put #[.iface 258 (.pointer (T (Q (13+10) 0 Y)))])) 12 (put #[.iface 258 (.pointer (T (Q (13+11) 0 Y)))])) 11 (put #[.iface 258 (.pointer (T (Q (13+12) 0 Y)))])) 1 (put #[.string ⟨#[]⟩,.int I 0,.int I 0,.int I 0,.int I 0,.string ⟨#[108,105,116]⟩,.int I 2000,.int I 0,.int I 0,.int I 1,.string ⟨#[99,97,116]⟩,.int I 0,.int I 0,.int I 2,.int I 1,.string ⟨#[99,117,116]⟩,.int I 0,.int I 2000,.int I 1,.int I 1,.string ⟨#[114,101,115,116]⟩,.int I 0,.int I 2000,.int I 1,.int I 1,.string ⟨#[119,111,114,100]⟩,.int I 0,.int I 2000,.int I 1,.int I 1,.string ⟨#[115,97,109,101]⟩,.int I 0,.int I 0,.int I 2,.int I 1,.string ⟨#[100,117,112]⟩,.int I 0,.int I 0,.int I 1,.int I 2,.string ⟨#[115,119,97,112]⟩,.int I 0,.int I 0,.int I 2,.int I 2,.string ⟨#[100,114,111,112]⟩,.int I 0,.int I 0,.int I 1,.int I 0,.string ⟨#[106,117,109,112]⟩,.int I 0,.int I 200,.int I 0,.int I 0,.string ⟨#[117,110,108,101,115,115]⟩,.int I 0,.int I 200,.int I 1,.int I 0,.string ⟨#[97,115,107]⟩,.int I 0,.int I 0,.int I 1,.int I 1,.string ⟨#[104,97,115]⟩,.int I 0,.int I 0,.int I 1,.int I 1,.string ⟨#[102,97,105,108]⟩,.int I 0,.int I 0,.int I 1,.int I 0,.string ⟨#[101,110,100]⟩,.int I 0,.int I 0,.int I 1,.int I 0])) 3 (put #[.int .u64 1,.int .u64 10,.int .u64 100,.int .u64 1000,.int .u64 10000,.int .u64 100000,.int .u64 1000000,.int .u64 10000000,.int .u64 100000000,.int .u64 1000000000,.int .u64 10000000000,.int .u64 100000000000,.int .u64 1000000000000,.int .u64 10000000000000,.int .u64 100000000000000,.int .u64 1000000000000000,.int .u64 10000000000000000,.int .u64 100000000000000000,.int .u64 1000000000000000000,.int .u64 10000000000000000000])) 9 (put #[.int .u8 0,.int .u8 1,.int .u8 28,.int .u8 2,.int .u8 29,.int .u8 14,.int .u8 24,.int .u8 3,.int .u8 30,.int .u8 22,.int .u8 20,.int .u8 15,.int .u8 25,.int .u8 17,.int .u8 4,.int .u8 8,.int .u8 31,.int .u8 27,.int .u8 13,.int .u8 23,.int .u8 21,.int .u8 19,.int .u8 16,.int .u8 7,.int .u8 26,.int .u8 12,.int .u8 18,.int .u8 6,.int .u8 11,.int .u8 5,.int .u8 10,.int .u8 9])) 10 (put #[.int .u8 0,.int .u8 1,.int .u8 56,.int .u8 2,.int .u8 57,.int .u8 49,.int .u8 28,.int .u8 3,.int .u8 61,.int .u8 58,.int .u8 42,.int .u8 50,.int .u8 38,.int .u8 29,.int .u8 17,.int .u8 4,.int .u8 62,.int .u8 47,.int .u8 59,.int .u8 36,.int .u8 45,.int .u8 43,.int .u8 51,.int .u8 22,.int .u8 53,.int .u8 39,.int .u8 33,.int .u8 30,.int .u8 24,.int .u8 18,.int .u8 12,.int .u8 5,.int .u8 63,.int .u8 55,.int .u8 48,.int .u8 27,.int .u8 60,.int .u8 41,.int .u8 37,.int .u8 16,.int .u8 46,.int .u8 35,.int .u8 44,.int .u8 21,.int .u8 52,.int .u8 32,.int .u8 23,.int .u8 11,.int .u8 54,.int .u8 26,.int .u8 40,.int .u8 15,.int .u8 34,.int .u8 20,.int .u8 31,.int .u8 10,.int .u8 25,.int .u8 14,.int .u8 19,.int .u8 9,.int .u8 13,.int .u8 8,.int .u8 7,.int .u8 6])) }:M)
   II rfl (by kernel_rfl) (by kernel_rfl) (by kernel_rfl)
   (OpenSpec.preRow_of_cond 8 (x:=([.nil],[Rows.laid_loop_example_kilndeed_impl_rows,.held (enc (258,.pointer (T (Q (13+5) 0 Y)))),.held (enc (258,.pointer (T (Q (13+6) 0 Y)))),.held (enc (258,.pointer (T (Q (13+7) 0 Y)))),.held (enc (258,.pointer (T (Q (13+8) 0 Y)))),.held (enc (258,.pointer (T (Q (13+9) 0 Y)))),.held (enc (258,.pointer (T (Q (13+10) 0 Y))))],MemPlace.row (Q 1 0 Y) 80++MemPlace.row (Q 0 0 Y) 1++MemPlace.row (Q 4 0 Y) 1++MemPlace.row (Q 5 0 Y) 1++MemPlace.row (Q 2 0 Y) 1++MemPlace.row (Q 6 0 Y) 1++MemPlace.row (Q 7 0 Y) 1)) (by kernel_rfl) (by kernel_rfl) (λk i=>by cases i) (by kernel_rfl) (laidMetH_of_parts (laidMet_of_run' 8 (by kernel_rfl) (by kernel_rfl)) (by kernel_rfl)))) ?_
 intro W f args l j c g h _ _ _ hL _ _;exact Fx H enc W f args l j c g h hL
theorem said:Rows.FnFormSaid :=
 OpenClaim.holds_of_cond 3 Tryz.f3 rfl rfl rfl rfl rfl rfl rfl ⟨rfl,rfl,rfl,rfl,rfl⟩ rfl rfl rfl rfl rfl (by kernel_rfl) VL facts
  (OH (by kernel_rfl)) (by unfold Func.isWrapper;first|(rw[p7 (by decide +kernel)];kernel_rfl)|(rw[nD (by decide +kernel)];exact⟨rfl,rfl⟩))
  (λos b H enc _ F=>by rw[OpenClaim.pre_eq_preRow];exact lifted os b H enc F)
theorem plain (f:FuncId)(fn:Func)(g:Tryz.pinned.checked.prog.funcNamed Rows.fnFormRow.func=T f)(c:Tryz.pinned.checked.prog.funcs[f]?=T fn):ZG=Tryz.pinned.checked.prog.looks []/\∀(j:Nat) t,fn.params[j]?=T t->Tryz.pinned.checked.prog.wantsStandIn t=ZA:=by
 obtain rfl:f=3:=BO ((show Pg.funcNamed Rows.fnFormRow.func=T 3 by kernel_rfl).symm.trans g) |>.symm;obtain rfl:fn=Tryz.f3:=(BO (VL.symm.trans c)).symm;refine⟨by kernel_rfl,λj t b=>?_⟩;rw[Tryz.params3] at b;obtain rfl:t=22:=by simpa using Array.mem_of_getElem? b
 exact(show Pg.wantsStandIn 22=ZA by kernel_rfl)
theorem card:Rows.FnFormCardSaid :=
 Claim7.holds_tied_plain_at .later [] _ _ _ _ said (λ_ h=>by cases h) (by kernel_rfl) (λ_ h=>by cases h) fnForm_row_tie rfl ⟨rfl,rfl⟩ (by kernel_rfl) rfl plain (by kernel_rfl)
end Go.Proofs.YtoddkejemcbkmaaGreatDoor.Ffc
namespace Go.Proofs.YtoddkejemcbkmaaGreatDoor
theorem fnForm_card:Rows.FnFormCardSaid:=Ffc.card
#print axioms fnForm_card
