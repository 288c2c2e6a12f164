import Derived.Test.YtpmnbjkjpnclaaaGreatDoorSSlList
import Derived.Test.YtpmnbjkjpnclaaaGreatDoorSSlFacts
import Derived.Test.YtpmnbjkjpnclaaaGreatDoorCards
import Derived.Deep.Slices
import Derived.Deep.Strs
set_option maxRecDepth 100000
open Go renaming Addr.mk->Q,Obj.cells->N,IntKind.i64->I,World->M,Value->ZC,TypeId->ZH,Proofs.Tryz.prog->Pg
open Option renaming none->U,some->T
open Bool renaming false->ZA,true->ZG
namespace Go.Proofs.YtpmnbjkjpnclaaaGreatDoor.Slc
open Go.ChangeShapes Go.WideShapes Go.ChangeAt RowKit Go.Deep Vp
theorem wG {H:Type}{enc:ZH × ZC->H}{W:M}{sp:Nat->Bool}:∀{b:List String} {c:List (DataW H)} {q:List MemPlace},DataW.TrodVars enc Pg W sp b c q->c.length=b.length
 |[],[],_,_=>rfl
 |_::b,_::c,_,h=>by obtain⟨_,_,_,_,_,q,_,_,_,_,h1,_⟩:=h;simp only[eL];rw[wG h1]
 |[],_::_,_,h=>h.elim
 |_::_,[],_,h=>h.elim
def kV (n:String):Prop:=∀g t,Pg.globalNamed n=T g->(Pg.globals[g]?).map (·.type)=T t->Pg.readableRec t=ZG/\t<Pg.types.size
theorem od {n:String}{g:Nat}(b:Pg.globalNamed n=T g)(c:(Pg.globals[g]?).map (·.type)=T 207):kV n:=λg' t' h1 h2=>by obtain rfl:=BC (b.symm.trans h1);obtain rfl:=BC (c.symm.trans h2);exact⟨by kernel_rfl,QG (by kernel_rfl)⟩
theorem Kg:kV pI:=λg' t' h1 h2=>by obtain rfl:=BC (gRows.symm.trans h1);obtain rfl:=BC (tRows.symm.trans h2);exact⟨by kernel_rfl,QG (by kernel_rfl)⟩
theorem tr {H:Type}{enc:ZH × ZC->H}{W r:M}(l:Below W.heap.size W r):∀{f:List String} {i:List (DataW H)} {q:List MemPlace},(∀n∈f,kV n)->DataW.TrodVars enc Pg W (λ_=>ZG) f i q->(∀x∈q,x.block<W.heap.size)->DataW.TrodVars enc Pg r (λb=>decide (b<W.heap.size)) f i q
 |[],[],_,_,h,_=>h
 |n::f,d::i,q,hf,h,hl=>by obtain⟨g,t,A,j,p,u,h1,h2,h3,h4,B,rfl⟩:=h;obtain⟨o,y⟩:=hf n (by simp) g t h1 h2;have s:∀x∈p,x.block<W.heap.size:=λx c=>hl x (by simp[c]);refine⟨g,t,A,j,p,u,h1,h2,Joins.var_stays h1 h3 l ly,?_,tr l (λm z=>hf m (by simp[z])) B (λx c=>hl x (by simp[c])),rfl⟩;exact DataW.trod_stays (kids_book laidOut o) (book_sized o) (λh=>by cases h) ⟨y,book_self t⟩ h4 (λx c=>l.same (s x c)) λx c=>by simpa using s x c
 |[],_::_,_,_,h,_=>h.elim
 |_::_,[],_,_,h,_=>h.elim
theorem IL:∀n∈Rows.fnSealSpec.vars,kV n:=by
 intro n hn;have hn:n∈["loop.example/kilndeed/impl.rows","loop.example/kilndeed/impl.errWord","loop.example/kilndeed/impl.errNumber","loop.example/kilndeed/impl.errQuote","loop.example/kilndeed/impl.errNoTarget","loop.example/kilndeed/impl.errOperand","loop.example/kilndeed/impl.errBound"]:=hn;simp only[AT,nj,QZ] at hn;rcases hn with rfl|rfl|rfl|rfl|rfl|rfl|rfl;{exact Kg};{exact od tm tp};{exact od oK oL};{exact od qO qP};{exact od mM mN};{exact od nI nJ};{exact od qQ qR}
theorem AA {H:Type}{enc:ZH × ZC->H}{W:M}{q:Nat}{v:ZC}{d:DataW H}{p:List MemPlace}(B:Value.okWide Pg W .any q 22 v)
  (h:DataW.Trod enc Pg W 0 (λ_=>ZG) ZG 22 v d p) :
  ∃a n cap,v=.slice a n cap/\(n:Int)<=9223372036854775807/\n<=cap/\ByteSl W a n:=by
 obtain⟨a0,n0,c0,rfl⟩:=okWide_slice IS B;obtain⟨fuel,y⟩:=h;rcases open_slice1 IS yG y with ⟨f,_⟩|⟨a,len,cap,m,k,V,D,Pl,f,hb,F,ZP,x,_,g⟩
 {simp[Value.cells] at f;obtain⟨rfl,rfl,rfl⟩:=f;exact⟨U,0,0,rfl,by omega,by omega,.inl rfl⟩}
 ·simp[Value.cells] at f;obtain⟨rfl,rfl,rfl⟩:=f;have s:m=c0:=by simpa using x
  subst s;have r:(n0:Int)<=9223372036854775807:=by unfold maxLen at ZP;omega
  refine⟨_,n0,m,rfl,r,F,?_⟩;by_cases hz:n0=0;{exact .inl hz}
  ·obtain⟨b,off,o⟩:=a;have j:o=U:=by simpa[Addr.add] using World.cell?_spot (g 0 (by omega)).1
   subst j;refine .inr ⟨b,off,rfl,?_,λi hi=>?_⟩;{have:=World.block_lt_of_cell? W _ (g 0 (by omega)).1;simpa[Addr.add] using this}
   ·obtain⟨c,C⟩:=g i (by omega);obtain⟨z,t,_,E⟩:=DataW.trod_int L3 C;rw[add_plain] at c;simp at t;rw[t] at c;have G:0<=z/\z<256:=by
     have l:(decide (IntKind.u8.min<=z) && decide (z<=IntKind.u8.max))=ZG:=E;simp only[z8,AI] at l;have m0:IntKind.u8.min=0:=by decide
     have A:IntKind.u8.max=255:=by decide
     rw[m0,A] at l;omega
    obtain⟨u,rfl⟩:=AS G.1;exact⟨u,by omega,c⟩
theorem Gr (H:Type)(enc:ZH × ZC->H)(W:M)(m:Nat)(args:Array ZC)(u r:List (DataW H))(f:List MemPlace)
  (c:∀(j:Nat) t v,Tryz.f5.params[j]?=T t->args[j]?=T v->Value.okWide Pg W .any m t v)
  (D:DataW.Whole enc Pg Tryz.f5.params.toList Rows.fnSealSpec.vars ZA W args.toList u r f) (hL:laidMetH Pg Rows.fnSealRow.laid W) :
  Calls Pg 5 args W λe B=>∃v,e=.returned v/\Rows.fnSealSpec.post enc Pg Tryz.f5 ZA ZG ZA ZA W args v B:=by
 have b:=D;obtain⟨p,q,C,g,rfl,hfz,hnd⟩:=D;have y:DataW.TrodAll enc Pg W 0 (λ_=>ZG) ZG Tryz.f5.params.toList args.toList u p:=C;rw[Tryz.params5] at y c;obtain⟨A,vs0,d0,ds0,L,q0,hargs,rfl,rfl,z,r0⟩:=trodAll_cons y;obtain⟨rfl,rfl,rfl⟩:=trodAll_nil r0;obtain rfl:args=#[A]:=by cases args;simp_all
 have i:=b.lt;have o:r.length=7:=wG g;obtain⟨a,n,cap,rfl,hn,ZP,F⟩:=AA (c 0 22 A rfl rfl) z;obtain⟨K,ZN,E⟩:=tables hL;refine(Gm a n cap W hn ZP F K ZN E).mono λe B ⟨G,s⟩=>?_;subst G;match r,o,g,b with
 |[x1,x2,x3,x4,x5,x6,x7],_,g,b =>
  refine⟨_,rfl,_,_,_,[],L++[],q,b,?_,?_,?_,s.frame _,λh=>by cases h⟩;{exact trodAll_cons_mk (shut_bool RY _) trodAll_mk0};{exact trodAll_cons_mk (Below.trod laidOut (by kernel_rfl) (QG (by kernel_rfl)) z s (λx l=>i x (by simp[l]))) trodAll_mk0};{exact tr s IL g λx l=>i x (by simp[l])}
def put (b:Array ZC):Obj->Obj
 |N _ t frozen=>N b t frozen
 |o=>o
abbrev JQ:Array ZC:=#[.slice U 0 0]
theorem lifted (os:Os)(b:os.Started)(H:Type)(enc:ZH × ZC->H)(F:Stop.Interp):ReturnsInHanded {} Tryz.checked os 5 .any ((OpenSpec.ofChange Rows.fnSealSpec).preRow enc Pg Tryz.f5 Rows.fnSealRow.domain ZA Rows.fnSealRow.laid) (((OpenSpec.ofChange Rows.fnSealSpec).at F).post enc Pg Tryz.f5 ZA ZG ZA ZA):=by
 refine returnsInHanded_of_row (C:=Tryz.checked) (s:=OpenSpec.ofChange Rows.fnSealSpec) own b (by kernel_rfl) XR
  (witness_row_at (enc:=enc) (C:=Tryz.checked) ZA ({ World.holding Pg os ⟨#[N #[.string ⟨#[110,111,32,119,111,114,100,32,111,102,32,97,110,32,105,110,115,116,114,117,99,116,105,111,110]⟩] 397,N #[.string ⟨#[110,111,32,100,101,99,105,109,97,108,32,97,115,32,105,116,32,105,115,32,119,114,105,116,116,101,110]⟩] 397,N #[.string ⟨#[110,111,32,116,101,120,116,32,105,110,32,113,117,111,116,101,115,32,97,115,32,105,116,32,105,115,32,119,114,105,116,116,101,110]⟩] 397,N #[.string ⟨#[97,32,108,105,110,101,32,111,102,32,97,32,116,97,114,103,101,116,32,97,104,101,97,100,32,111,102,32,97,108,108,32,100,101,101,100,115]⟩] 397,N #[.string ⟨#[97,110,32,111,112,101,114,97,110,100,32,116,104,97,116,32,116,104,101,32,119,111,114,100,32,100,111,101,115,32,110,111,116,32,104,97,118,101]⟩] 397,N #[.string ⟨#[97,110,32,111,112,101,114,97,110,100,32,111,117,116,32,111,102,32,105,116,115,32,98,111,117,110,100,115]⟩] 397,N #[.string ⟨#[118,97,108,117,101,32,111,117,116,32,111,102,32,114,97,110,103,101]⟩] 397,N #[.string ⟨#[105,110,118,97,108,105,100,32,115,121,110,116,97,120]⟩] 397],#[],[]⟩ with heap:=(Array.modify (Array.modify (Array.modify (Array.modify (Array.modify (Array.modify (Array.modify (Array.modify (Array.modify (Array.modify (Array.modify (Array.modify (World.holding Pg os ⟨#[N #[.string ⟨#[110,111,32,119,111,114,100,32,111,102,32,97,110,32,105,110,115,116,114,117,99,116,105,111,110]⟩] 397,N #[.string ⟨#[110,111,32,100,101,99,105,109,97,108,32,97,115,32,105,116,32,105,115,32,119,114,105,116,116,101,110]⟩] 397,N #[.string ⟨#[110,111,32,116,101,120,116,32,105,110,32,113,117,111,116,101,115,32,97,115,32,105,116,32,105,115,32,119,114,105,116,116,101,110]⟩] 397,N #[.string ⟨#[97,32,108,105,110,101,32,111,102,32,97,32,116,97,114,103,101,116,32,97,104,101,97,100,32,111,102,32,97,108,108,32,100,101,101,100,115]⟩] 397,N #[.string ⟨#[97,110,32,111,112,101,114,97,110,100,32,116,104,97,116,32,116,104,101,32,119,111,114,100,32,100,111,101,115,32,110,111,116,32,104,97,118,101]⟩] 397,N #[.string ⟨#[97,110,32,111,112,101,114,97,110,100,32,111,117,116,32,111,102,32,105,116,115,32,98,111,117,110,100,115]⟩] 397,N #[.string ⟨#[118,97,108,117,101,32,111,117,116,32,111,102,32,114,97,110,103,101]⟩] 397,N #[.string ⟨#[105,110,118,97,108,105,100,32,115,121,110,116,97,120]⟩] 397],#[],[]⟩).heap 0 (put #[.iface 395 (.pointer (T (Q (15+5) 0 U)))])) 5 (put #[.iface 395 (.pointer (T (Q (15+6) 0 U)))])) 6 (put #[.iface 395 (.pointer (T (Q (15+7) 0 U)))])) 3 (put #[.iface 395 (.pointer (T (Q (15+8) 0 U)))])) 7 (put #[.iface 395 (.pointer (T (Q (15+9) 0 U)))])) 8 (put #[.iface 395 (.pointer (T (Q (15+10) 0 U)))])) 12 (put #[.iface 395 (.pointer (T (Q (15+11) 0 U)))])) 11 (put #[.iface 395 (.pointer (T (Q (15+12) 0 U)))])) 1 (put #[.string ⟨#[]⟩,.int I 0,.int I 0,.int I 0,.int I 0,.string ⟨#[108,105,116]⟩,.int I 2000,.int I 0,.int I 0,.int I 1,.string ⟨#[99,97,116]⟩,.int I 0,.int I 0,.int I 2,.int I 1,.string ⟨#[99,117,116]⟩,.int I 0,.int I 2000,.int I 1,.int I 1,.string ⟨#[114,101,115,116]⟩,.int I 0,.int I 2000,.int I 1,.int I 1,.string ⟨#[119,111,114,100]⟩,.int I 0,.int I 2000,.int I 1,.int I 1,.string ⟨#[115,97,109,101]⟩,.int I 0,.int I 0,.int I 2,.int I 1,.string ⟨#[100,117,112]⟩,.int I 0,.int I 0,.int I 1,.int I 2,.string ⟨#[115,119,97,112]⟩,.int I 0,.int I 0,.int I 2,.int I 2,.string ⟨#[100,114,111,112]⟩,.int I 0,.int I 0,.int I 1,.int I 0,.string ⟨#[106,117,109,112]⟩,.int I 0,.int I 200,.int I 0,.int I 0,.string ⟨#[117,110,108,101,115,115]⟩,.int I 0,.int I 200,.int I 1,.int I 0,.string ⟨#[97,115,107]⟩,.int I 0,.int I 0,.int I 1,.int I 1,.string ⟨#[104,97,115]⟩,.int I 0,.int I 0,.int I 1,.int I 1,.string ⟨#[102,97,105,108]⟩,.int I 0,.int I 0,.int I 1,.int I 0,.string ⟨#[101,110,100]⟩,.int I 0,.int I 0,.int I 1,.int I 0])) 2 (put #[.int .u64 1,.int .u64 10,.int .u64 100,.int .u64 1000,.int .u64 10000,.int .u64 100000,.int .u64 1000000,.int .u64 10000000,.int .u64 100000000,.int .u64 1000000000,.int .u64 10000000000,.int .u64 100000000000,.int .u64 1000000000000,.int .u64 10000000000000,.int .u64 100000000000000,.int .u64 1000000000000000,.int .u64 10000000000000000,.int .u64 100000000000000000,.int .u64 1000000000000000000,.int .u64 10000000000000000000])) 9 (put #[.int .u8 0,.int .u8 1,.int .u8 28,.int .u8 2,.int .u8 29,.int .u8 14,.int .u8 24,.int .u8 3,.int .u8 30,.int .u8 22,.int .u8 20,.int .u8 15,.int .u8 25,.int .u8 17,.int .u8 4,.int .u8 8,.int .u8 31,.int .u8 27,.int .u8 13,.int .u8 23,.int .u8 21,.int .u8 19,.int .u8 16,.int .u8 7,.int .u8 26,.int .u8 12,.int .u8 18,.int .u8 6,.int .u8 11,.int .u8 5,.int .u8 10,.int .u8 9])) 10 (put #[.int .u8 0,.int .u8 1,.int .u8 56,.int .u8 2,.int .u8 57,.int .u8 49,.int .u8 28,.int .u8 3,.int .u8 61,.int .u8 58,.int .u8 42,.int .u8 50,.int .u8 38,.int .u8 29,.int .u8 17,.int .u8 4,.int .u8 62,.int .u8 47,.int .u8 59,.int .u8 36,.int .u8 45,.int .u8 43,.int .u8 51,.int .u8 22,.int .u8 53,.int .u8 39,.int .u8 33,.int .u8 30,.int .u8 24,.int .u8 18,.int .u8 12,.int .u8 5,.int .u8 63,.int .u8 55,.int .u8 48,.int .u8 27,.int .u8 60,.int .u8 41,.int .u8 37,.int .u8 16,.int .u8 46,.int .u8 35,.int .u8 44,.int .u8 21,.int .u8 52,.int .u8 32,.int .u8 23,.int .u8 11,.int .u8 54,.int .u8 26,.int .u8 40,.int .u8 15,.int .u8 34,.int .u8 20,.int .u8 31,.int .u8 10,.int .u8 25,.int .u8 14,.int .u8 19,.int .u8 9,.int .u8 13,.int .u8 8,.int .u8 7,.int .u8 6])) }:M)
   JQ rfl (by kernel_rfl) (by kernel_rfl) (by kernel_rfl)
   (OpenSpec.preRow_of_cond 8 (x:=([.nil],[Rows.laid_loop_example_kilndeed_impl_rows,.held (enc (395,.pointer (T (Q (15+5) 0 U)))),.held (enc (395,.pointer (T (Q (15+6) 0 U)))),.held (enc (395,.pointer (T (Q (15+7) 0 U)))),.held (enc (395,.pointer (T (Q (15+8) 0 U)))),.held (enc (395,.pointer (T (Q (15+9) 0 U)))),.held (enc (395,.pointer (T (Q (15+10) 0 U))))],MemPlace.row (Q 1 0 U) 80++MemPlace.row (Q 0 0 U) 1++MemPlace.row (Q 5 0 U) 1++MemPlace.row (Q 6 0 U) 1++MemPlace.row (Q 3 0 U) 1++MemPlace.row (Q 7 0 U) 1++MemPlace.row (Q 8 0 U) 1)) (by kernel_rfl) (by kernel_rfl) (λk j=>by cases j) (by kernel_rfl) (laidMetH_of_parts (laidMet_of_run' 8 (by kernel_rfl) (by kernel_rfl)) (by kernel_rfl)))) ?_
 intro W f args h i c g l _ _ _ hL _ _;exact Gr H enc W f args h i c g l hL
theorem said:Rows.FnSealSaid :=
 OpenClaim.holds_of_cond 5 Tryz.f5 rfl rfl rfl rfl rfl rfl rfl ⟨rfl,rfl,rfl,rfl,rfl⟩ rfl rfl rfl rfl rfl (by kernel_rfl) XR facts
  (QG (by kernel_rfl)) (by unfold Func.isWrapper;first|(rw[p6 (by decide +kernel)];kernel_rfl)|(rw[gM (by decide +kernel)];exact⟨rfl,rfl⟩))
  (λos b H enc _ F=>by rw[OpenClaim.pre_eq_preRow];exact lifted os b H enc F)
theorem plain (f:FuncId)(fn:Func)(g:Tryz.pinned.checked.prog.funcNamed Rows.fnSealRow.func=T f)(b:Tryz.pinned.checked.prog.funcs[f]?=T fn):ZG=Tryz.pinned.checked.prog.looks []/\∀(j:Nat) t,fn.params[j]?=T t->Tryz.pinned.checked.prog.wantsStandIn t=ZA:=by
 obtain rfl:f=5:=BC ((show Pg.funcNamed Rows.fnSealRow.func=T 5 by kernel_rfl).symm.trans g) |>.symm;obtain rfl:fn=Tryz.f5:=(BC (XR.symm.trans b)).symm;refine⟨by kernel_rfl,λj t c=>?_⟩;rw[Tryz.params5] at c;obtain rfl:t=22:=by simpa using Array.mem_of_getElem? c
 exact(show Pg.wantsStandIn 22=ZA by kernel_rfl)
theorem card:Rows.FnSealCardSaid :=
 Claim7.holds_tied_plain_at .later [] _ _ _ _ said (λ_ h=>by cases h) (by kernel_rfl) (λ_ h=>by cases h) fnSeal_row_tie rfl ⟨rfl,rfl⟩ (by kernel_rfl) rfl plain (by kernel_rfl)
end Go.Proofs.YtpmnbjkjpnclaaaGreatDoor.Slc
namespace Go.Proofs.YtpmnbjkjpnclaaaGreatDoor
theorem fnSeal_card:Rows.FnSealCardSaid:=Slc.card
#print axioms fnSeal_card
