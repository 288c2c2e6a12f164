import Derived.Test.YtoddkejemcbkmaaGreatDoorRB
import Derived.Test.YtoddkejemcbkmaaGreatDoorRV
import Derived.Lib.OthersKept
set_option maxRecDepth 100000
set_option maxHeartbeats 4000000
open Go renaming Addr.mk->Q,Value.slice->Z,Value.string->U,Value.int->J,Value.bool->ZD,Obj.cells->N,IntKind.i64->I,World->M,Value->ZC,TypeId->ZH,Ending.returned->ZF,World.alloc->A,Proofs.Tryz.prog->Pg
open Option renaming none->Y,some->T
open Bool renaming false->ZA,true->ZG
namespace Go.Proofs.YtoddkejemcbkmaaGreatDoor.Vp
open Tryz RowKit
variable {w f:M}{B b C:Nat}{l:List UInt8}
theorem I6:liesAt Pg Pg.depth 54 (2 / Pg.cellsOf 54) 0 52 1=ZG:=by kernel_rfl
def Bw (w:M)(B b:Nat)(l:List UInt8):Prop:=Lib.IsBuilder 54 5 B b (Lib.byteCells l) w
theorem Bw.lt (h:Bw w B b l):B<=b/\b<w.heap.size:=by
 rcases h with h|h;{exact⟨h.1,h.lt⟩};{exact⟨h.1,h.lt⟩}
theorem jK{m:M}{p:ZC}{i:List ZC}(h:Lib.BuilderAt 54 5 B b p i w)(hb:Below C w m)(q:w.heap.size<=C):Lib.BuilderAt 54 5 B b p i m:=by
 have hl:=h.lt;obtain⟨s,v,o,j,c⟩:=h;refine⟨s,v,by rw[hb.block b (by omega)];exact o,⟨j.1,?_⟩,c⟩;rcases j.2 with hn|⟨g,cap,l,t,n,f,r⟩
 {exact .inl hn};{exact .inr ⟨g,cap,l,t,n,by rw[hb.block g (lj (gM.1 f).1 q)];exact f,r⟩}
theorem Bw.aa (h:Bw w B b l)(hb:Below C w f)(c:w.heap.size<=C):Bw f B b l :=
 h.elim (λx=>.inl (jK x hb c)) (λx=>.inr (jK x hb c))
theorem Bw.new (w:M):Bw (A w (N #[.pointer Y,Z Y 0 0] 54)) w.heap.size w.heap.size []:=by refine .inl ⟨n8 _,Z Y 0 0,?_,AT _ _ _ _,by simp[Value.ownBlock]⟩;show(w.heap.push _)[w.heap.size]?=_;simp
abbrev Kp (b:Nat)(w c:M):Prop:=Lib.OthersKept 5 (T b) w c
theorem bJ (h:Below w.heap.size w f):Kp b w f:=by intro k o c _ _;rw[h.block k (gM.1 c).1];exact c
theorem uh{v:ZC}(h:Bs w B v l):∀g,v.ownBlock=T g->∃c fz,w.heap[g]?=T (N c 5 fz):=by
 intro g b;rcases h.2 with ⟨rfl,_⟩|⟨g',cap,i,rfl,_,f,_⟩
 {simp[Value.ownBlock] at b};{simp[Value.ownBlock] at b;subst b;exact⟨i,_,f⟩}
theorem oS (b:Nat)(w:M)(h0:w.cell? (Q b 0 Y)=T (.pointer Y))(c:w.shape? b=T (54,2))(hfz:w.frozen? (Q b 0 Y)=ZA):Calls Pg 90 #[.pointer (T (Q b 0 Y))] w λe h=>e=ZF (.tuple #[])/\h=w.setCell (Q b 0 Y) (.pointer (T (Q b 0 Y))):=by obtain⟨j,f,g⟩:=MN.1 sV;go_enter U6,ntmps90;go_wp2;rw[Lib.run_to_unsafe w (Q b 0 Y) PH QP f (by rw[g];decide) c (Nat.zero_lt_succ 1)];simp only[Result.andThen];rw[QW];go_wp2;rw[run_callFunc_extern func125 (by kernel_rfl) (by kernel_rfl) (by kernel_rfl) (e:=Extern.AbiNoEscape.same) (by kernel_rfl)];rw[Lib.run_noEscape];simp only[Result.andThen];rw[QW];go_wp2;rw[Lib.run_from_unsafe w (Q b 0 Y) QP PH f c I6];simp only[Result.andThen];rw[QW];go_wp2;go_end0;exact⟨rfl,rfl⟩
theorem pK (b:Nat)(w:M)(h0:w.cell? (Q b 0 Y)=T (.pointer (T (Q b 0 Y)))):Calls Pg 90 #[.pointer (T (Q b 0 Y))] w λe f=>e=ZF (.tuple #[])/\f=w:=by obtain⟨j,c,_⟩:=MN.1 sV;go_enter U6,ntmps90;go_wp2;rw[Lib.run_neq_ptr_same w _ PH c];go_wp2;go_end0;exact⟨rfl,rfl⟩
theorem kY (B b:Nat)(f:List ZC)(w:M)(h:Lib.IsBuilder 54 5 B b f w):Calls Pg 90 #[.pointer (T (Q b 0 Y))] w λe c=>e=ZF (.tuple #[])/\(Lib.BuilderAt 54 5 B b (.pointer (T (Q b 0 Y))) f c/\Below B w c/\Kp b w c):=by
 rcases h with h|h;{refine(oS b w h.cell0 h.shape h.frozen0).mono ?_;rintro e c ⟨rfl,rfl⟩;exact⟨rfl,h.used _,(eL B w).setCell (p:=(Q b 0 Y)) h.1 _,(P0 _ _ w).setCell (Q b 0 Y) rfl _⟩};{refine(pK b w h.cell0).mono ?_;rintro e c ⟨rfl,rfl⟩;exact⟨rfl,h,eL B _,P0 _ _ _⟩}
theorem qF (B b:Nat)(l:List UInt8)(c:UInt8)(w:M)(h:Bw w B b l)(hlen:l.length+1<=140737488355328)(hBw:B<=w.heap.size):Calls Pg 47 #[.pointer (T (Q b 0 Y)),J .u8 c.toNat] w λe z=>e=ZF .nilIface/\Bw z B b (l++[c])/\Below B w z/\Kp b w z:=by
 go_enter func47,ntmps47;go_wp2_with (go_at_call 90;refine(kY B b _ _ h).mono ?_);rintro e j ⟨rfl,h1,q,x⟩;have K:=ae x;clear x;have E:=h1.lt;obtain⟨G,v,m,i,t⟩:=h1;have c0:j.cell? (Q b 0 Y)=T (.pointer (T (Q b 0 Y))):=by rw[IA m];rfl
 have c1:j.cell? (Q b 1 Y)=T v:=by rw[IA m];rfl
 have n:Bs j B v l:=by rw[M5] at i;exact i
 have y:=ae n;have ZO:=ae m;have ZP:=ae t;have F:=ae q;have hs1:w.heap.size<=j.heap.size:=q.size;clear i n m t q;go_wp2_with (at_builtin;refine mG rfl _ _ rfl B _ l rfl ?h1 (Q j.heap.size 0 Y) 1 [c] rfl ?h2 ?h3 ?h4 ?_);case h1=>exact y.out.aa (br.alloc ly _) ly
 case h2=>exact gA (by simp)
 case h3=>simp only[eT,nX];omega
 case h4=>simp;omega
 intro v' s r o;obtain⟨g,cap,rfl,hg3,hg4⟩:=r.aq (by simp);have f:s.heap[b]?=T (N #[.pointer (T (Q b 0 Y)),v] 54 (0,0)):=by rw[o.block b (by simp;omega) (λe=>ZP.out e.symm),VE j _ b E];exact ZO.out
 have d0:s.cell? (Q b 0 Y)=T (.pointer (T (Q b 0 Y))):=by rw[IA f];rfl
 have d1:s.cell? (Q b 1 Y)=T v:=by rw[IA f];rfl
 have f1:s.frozen? (Q b 1 Y)=ZA:=MW f 1;have C:=ae f;have ZR:=ae r;have u:=ae o;clear f r o;go_wp2;go_ret;refine⟨rfl,.inr (Lib.BuilderAt.put (T:=54) (e:=5) G C.out (bs':=Lib.byteCells (l++[c])) ?_ (by decide)),?_,?_⟩;{have:=ZR.out;unfold Bs at this;rw[M5];simpa using this};{exact((F.out.alloc (by omega) _).grown u.out (by simp;omega) (λk L=>(P6 y.out k L).1)).setCell (p:=(Q b 1 Y)) G _}
 ·exact((K.out.alloc _).grown u.out (λg H=>by
   obtain⟨c,fz,D⟩:=uh y.out g H
   exact⟨c,fz,(VE j _ g (gM.1 D).1).trans D⟩)).setCell (Q b 1 Y) rfl _
theorem oT (B b:Nat)(l m:List UInt8)(w:M)(h:Bw w B b l)(hlen:l.length+m.length<=140737488355328)(hBw:B<=w.heap.size):Calls Pg 45 #[.pointer (T (Q b 0 Y)),U ⟨m.toArray⟩] w λe ZR=>(∃x,e=ZF x)/\Bw ZR B b (l++m)/\Below B w ZR/\Kp b w ZR:=by
 go_enter func45,ntmps45;go_wp2_with (go_at_call 90;refine(kY B b _ _ h).mono ?_);rintro e s ⟨rfl,h1,o,y⟩;have ZN:=ae y;clear y;have G:=h1.lt;obtain⟨ZP,v,i,f,t⟩:=h1;have c0:s.cell? (Q b 0 Y)=T (.pointer (T (Q b 0 Y))):=by rw[IA i];rfl
 have c1:s.cell? (Q b 1 Y)=T v:=by rw[IA i];rfl
 have j:Bs s B v l:=by rw[M5] at f;exact f
 have z:=ae j;have ZQ:=ae i;have L:=ae t;have H:=ae o;have hs1:w.heap.size<=s.heap.size:=o.size;clear f j i t o;go_wp2_with (at_builtin;refine xZ rfl _ _ rfl B _ l rfl ?h1 m rfl ?h3 ?h4 ?_);case h1=>exact z.out
 case h3=>omega
 case h4=>omega
 intro O r q n;have c:r.heap[b]?=T (N #[.pointer (T (Q b 0 Y)),v] 54 (0,0)):=by rw[n.block b G (λe=>L.out e.symm)];exact ZQ.out
 have d0:r.cell? (Q b 0 Y)=T (.pointer (T (Q b 0 Y))):=by rw[IA c];rfl
 have d1:r.cell? (Q b 1 Y)=T v:=by rw[IA c];rfl
 have f1:r.frozen? (Q b 1 Y)=ZA:=MW c 1;obtain⟨E,ZO,cap,rfl⟩:∃E ZO cap,O=Z E ZO cap:=by
  rcases q.2 with ⟨C,_⟩|⟨g,cap,cur,C,_⟩
  {exact⟨_,_,_,C⟩};{exact⟨_,_,_,C⟩}
 have F:=ae c;have D:=ae q;have u:=ae n;clear c q n;go_wp2;go_ret2;refine⟨⟨_,rfl⟩,.inr (Lib.BuilderAt.put (T:=54) (e:=5) ZP F.out (bs':=Lib.byteCells (l++m)) ?_ (by decide)),?_,?_⟩;{have:=D.out;unfold Bs at this;rw[M5];exact this};{exact(H.out.grown u.out (by omega) (λk P=>(P6 z.out k P).1)).setCell (p:=(Q b 1 Y)) ZP _};{exact(ZN.out.grown u.out (λg K=>uh z.out g K)).setCell (Q b 1 Y) rfl _}
theorem Bw.buf (h:Bw w B b l):∃p f cap,w.heap[b]?=T (N #[p,Z f l.length cap] 54 (0,0)):=by
 have c:∀p,Lib.BuilderAt 54 5 B b p (Lib.byteCells l) w->∃p f cap,w.heap[b]?=T (N #[p,Z f l.length cap] 54 (0,0)):=by
  intro p n;obtain⟨_,v,j,m,_⟩:=n;rw[M5] at m;rcases m.2 with ⟨i,hz⟩|⟨g,cap,cur,i,_⟩
  {subst i;rw[hz];exact⟨_,_,_,j⟩};{subst i;exact⟨_,_,_,j⟩}
 exact h.elim (c _) (c _)
theorem DG (B b:Nat)(l:List UInt8)(w:M)(h:Bw w B b l):Calls Pg 26 #[.pointer (T (Q b 0 Y))] w λe g=>e=ZF (J I l.length)/\g=w:=by
 obtain⟨p,f,cap,c⟩:=h.buf;have c1:w.cell? (Q b 1 Y)=T (Z f l.length cap):=by rw[IA c];rfl
 clear c h;go_enter func26,ntmps26;go_wp2;go_ret;exact⟨rfl,rfl⟩
theorem cellsByte:Pg.cellsOf 5=1:=by kernel_rfl
theorem vU (B b:Nat)(l:List UInt8)(w:M)(h:Bw w B b l)(y:l≠[]):Calls Pg 27 #[.pointer (T (Q b 0 Y))] w λe H=>e=ZF (U ⟨l.toArray⟩)/\Below B w H:=by
 obtain⟨p,F⟩:∃p,Lib.BuilderAt 54 5 B b p (Lib.byteCells l) w:=h.elim (λx=>⟨_,x⟩) (λx=>⟨_,x⟩);obtain⟨hB,v,s,f,ZR⟩:=F;have E:l.length≠0:=by simpa using y
 rw[M5] at f;obtain⟨g,cap,c,rfl,z,G,D,o,u,i⟩:∃g cap c,v=Z (T (Q g 0 Y)) l.length cap/\B<=g/\w.heap[g]?=T (N c 5)/\l.length<=cap/\cap<=maxLen/\c.size=cap*1/\c.toList.take (l.length*1)=Lib.byteCells l:=by
  rcases f.2 with ⟨_,hz⟩|⟨g,cap,c,ZP,r⟩
  {exact absurd hz E};{exact⟨g,cap,c,ZP,r⟩}
 have c1:w.drew.cell? (Q b 1 Y)=T (Z (T (Q g 0 Y)) l.length cap):=by have:w.drew.heap[b]?=T (N #[p,Z (T (Q g 0 Y)) l.length cap] 54 (0,0)):=s;rw[IA this];rfl
 have hSD:(Builtin.unsafeSliceData_ #[22] 101 #[Z (T (Q g 0 Y)) l.length cap]).run Pg w.drew=.ok (.pointer (T (Q g 0 Y))) w.drew :=
  Lib.run_unsafeSliceData_row _ _ _ _ _ _ (by omega)
 have hUS:(Builtin.unsafeString_ #[101,3] 9 #[.pointer (T (Q g 0 Y)),J I l.length]).run Pg w.drew=.ok (U ⟨l.toArray⟩) (w.drew.freeze (Q g 0 Y) l.length):=by
  refine Lib.run_unsafeString_row w.drew 101 3 9 5 TF cellsByte g c.size (by have t:w.drew.heap[g]?=T (N c 5):=G;simp[World.shape?,t]) l y (by omega) (by unfold maxLen at o;omega) ?_;intro j x m;have C:j<l.length:=by
   rcases N1 j l.length with q|q;{exact q};{rw[MR q] at m;cases m}
  have ZO:=Bs.cell (w:=w) (base:=B) (g:=g) (cap:=cap) (n:=l.length) (l:=l) f j C;rw[gq C] at m;obtain rfl:=BO m;exact ZO
 have mixed:Pg.follows .mixedOrders=ZG:=by kernel_rfl
 clear f ZR i u o D;go_enter func27,ntmps27;go_wp2;go_region_o;all_goals (go_wp2;go_ret;exact⟨rfl,Lib.below_freeze (QK (eL B w)) (p:=(Q g 0 Y)) z _⟩)
abbrev joined (b:List ByteArray):List UInt8:=Lib.join (b.map (·.data.toList)) [32]
theorem lT (n:M)(b:Nat)(l:List UInt8)(g c:Nat)(f:List ByteArray)(w:M)(hb:Below n.heap.size n w)(h:Bw w n.heap.size b l)(D:g<w.heap.size)(m:∀(j:Nat) x,f[j]?=T x->w.cell? (Q g (0+j) Y)=T (U x))(ZR:f.length<=c)(hn:f.length<=10)(C:l.length+(joined f).length+1<=140737488355328):Calls Pg 23 #[.pointer (T (Q b 0 Y)),Z (T (Q g 0 Y)) f.length c] w λe o=>e=ZF (.tuple #[])/\Bw o n.heap.size b (l++joined f++[10])/\Below n.heap.size n o/\Kp b w o:=by
 have E:=ae (λW (K:Below w.heap.size w W)=>Tryz.strings_Join g 0 c f ⟨#[32]⟩ W (λj x ZK=>(K.cell (p:=(Q g (0+j) Y)) D).trans (m j x ZK)) (lj D K.size) (by omega) ZR (by show(joined f).length<=_;omega));have H:=ae h;have ZQ:=ae hb;have ZO:=hb.size;have hlt:=h.lt;clear m h hb;obtain⟨ZL,B⟩:∃ZL,ZL=joined f:=⟨_,rfl⟩
 have F:Hid (∀W,Below w.heap.size w W->Calls Pg 46 #[Z (T (Q g 0 Y)) f.length c,U ⟨#[32]⟩] W λe o=>e=ZF (U ⟨ZL.toArray⟩)/\Below W.heap.size W o):=by rw[B];exact E.out
 rw[<-B] at C ⊢;clear B E;go_enter func23,ntmps23;go_wp2_with fail
 go_region_with (first
  |(go_at_call 46;refine(F.out _ ?_).mono ?_;(first|exact eL _ _|exact br.drew);rintro e G ⟨rfl,i⟩;have q:Hid (Below w.heap.size w G):=⟨i.os,i.tape,i.output,i.size,i.block⟩;have L:=ae (H.out.aa q.out ly);have ZN:Hid (Kp b w G):=bJ q.out;clear i)
  |(go_at_call 45;refine(oT n.heap.size b l ZL _ L.out (by omega) (p9 ZO q.out.size)).mono ?_;rintro e w2 ⟨⟨x,rfl⟩,t,r,u⟩;have O:=ae t;have ZM:=ae (ZN.out.trans u);have ZP:=ae ((ZQ.out.trans (q.out.mono ZO)).trans r);clear t r u))
 all_goals
  go_simp;go_wp2_with fail;refine(qF n.heap.size b _ 10 _ O.out (by simp only[cM];omega) ZP.out.size).mono ?_;rintro e w3 ⟨rfl,y,z,s⟩;have R:=ae (ZM.out.trans s);have P:=ae y;have S:=ae (ZP.out.trans z);clear y z s;go_wp2;go_end0;exact⟨rfl,P.out,S.out,R.out⟩
theorem kZ (a b:ByteArray):joined [a,b]=a.data.toList++[32]++b.data.toList:=by simp[joined,Lib.join]
theorem jx (a b c:ByteArray):joined [a,b,c]=a.data.toList++[32]++b.data.toList++[32]++c.data.toList:=by simp[joined,Lib.join]
theorem xt (a b c d:ByteArray):joined [a,b,c,d]=a.data.toList++[32]++b.data.toList++[32]++c.data.toList++[32]++d.data.toList:=by simp[joined,Lib.join]
theorem Jf (w:M)(a b c:ByteArray)(t:ZH):∀(j:Nat) x,([a,b,c]:List ByteArray)[j]?=T x->(A w (N #[U a,U b,U c] t)).cell? (Q w.heap.size (0+j) Y)=T (U x):=by
 intro j x f;rcases j with _|_|_|j;{simp at f;subst f;simp};{simp at f;subst f;simp};{simp at f;subst f;simp};{simp at f}
theorem Jg (w:M)(a b:ByteArray)(t:ZH):∀(j:Nat) x,([a,b]:List ByteArray)[j]?=T x->(A w (N #[U a,U b] t)).cell? (Q w.heap.size (0+j) Y)=T (U x):=by
 intro j x c;rcases j with _|_|j;{simp at c;subst c;simp};{simp at c;subst c;simp};{simp at c}
theorem Jh (w:M)(a b c d:ByteArray)(t:ZH):∀(j:Nat) x,([a,b,c,d]:List ByteArray)[j]?=T x->(A w (N #[U a,U b,U c,U d] t)).cell? (Q w.heap.size (0+j) Y)=T (U x):=by
 intro j x f;rcases j with _|_|_|_|j;{simp at f;subst f;simp};{simp at f;subst f;simp};{simp at f;subst f;simp};{simp at f;subst f;simp};{simp at f}
theorem Ji (w:M)(a:ByteArray)(t:ZH):∀(j:Nat) x,([a]:List ByteArray)[j]?=T x->(A w (N #[U a] t)).cell? (Q w.heap.size (0+j) Y)=T (U x):=by
 intro j x b;rcases j with _|j;{simp at b;subst b;simp};{simp at b}
theorem I7 (c W f:M)(b:Nat)(l:List UInt8)(x:ByteArray)(t:ZH)(j:Below c.heap.size c W)(i:Below W.heap.size W f)(m:Bw W c.heap.size b l)(h:l.length+(joined [x]).length+1<=140737488355328):Calls Pg 23 #[.pointer (T (Q b 0 Y)),Z (T (Q f.heap.size 0 Y)) 1 1] (A f (N #[U x] t)) λe g=>e=ZF (.tuple #[])/\Bw g c.heap.size b (l++joined [x]++[10])/\Below c.heap.size c g/\Kp b W g:=by have ZR:=i.alloc i.size (N #[U x] t);exact(lT c b l f.heap.size 1 [x] _ (j.trans (ZR.mono j.size)) (m.aa ZR ly) (by simp) (Ji f x t) (by simp) (by simp) h).mono λe g ⟨h1,h2,h3,h4⟩=>⟨h1,h2,h3,(bJ ZR).trans h4⟩
theorem yJ (c W f:M)(b:Nat)(l:List UInt8)(x y:ByteArray)(t:ZH)(j:Below c.heap.size c W)(i:Below W.heap.size W f)(m:Bw W c.heap.size b l)(h:l.length+(joined [x,y]).length+1<=140737488355328):Calls Pg 23 #[.pointer (T (Q b 0 Y)),Z (T (Q f.heap.size 0 Y)) 2 2] (A f (N #[U x,U y] t)) λe g=>e=ZF (.tuple #[])/\Bw g c.heap.size b (l++joined [x,y]++[10])/\Below c.heap.size c g/\Kp b W g:=by have ZR:=i.alloc i.size (N #[U x,U y] t);exact(lT c b l f.heap.size 2 [x,y] _ (j.trans (ZR.mono j.size)) (m.aa ZR ly) (by simp) (Jg f x y t) (by simp) (by simp) h).mono λe g ⟨h1,h2,h3,h4⟩=>⟨h1,h2,h3,(bJ ZR).trans h4⟩
theorem yK (c W f:M)(b:Nat)(l:List UInt8)(x y z:ByteArray)(t:ZH)(j:Below c.heap.size c W)(i:Below W.heap.size W f)(m:Bw W c.heap.size b l)(h:l.length+(joined [x,y,z]).length+1<=140737488355328):Calls Pg 23 #[.pointer (T (Q b 0 Y)),Z (T (Q f.heap.size 0 Y)) 3 3] (A f (N #[U x,U y,U z] t)) λe g=>e=ZF (.tuple #[])/\Bw g c.heap.size b (l++joined [x,y,z]++[10])/\Below c.heap.size c g/\Kp b W g:=by have ZR:=i.alloc i.size (N #[U x,U y,U z] t);exact(lT c b l f.heap.size 3 [x,y,z] _ (j.trans (ZR.mono j.size)) (m.aa ZR ly) (by simp) (Jf f x y z t) (by simp) (by simp) h).mono λe g ⟨h1,h2,h3,h4⟩=>⟨h1,h2,h3,(bJ ZR).trans h4⟩
theorem I8 (c W f:M)(b:Nat)(l:List UInt8)(x y z u:ByteArray)(t:ZH)(j:Below c.heap.size c W)(i:Below W.heap.size W f)(m:Bw W c.heap.size b l)(h:l.length+(joined [x,y,z,u]).length+1<=140737488355328):Calls Pg 23 #[.pointer (T (Q b 0 Y)),Z (T (Q f.heap.size 0 Y)) 4 4] (A f (N #[U x,U y,U z,U u] t)) λe g=>e=ZF (.tuple #[])/\Bw g c.heap.size b (l++joined [x,y,z,u]++[10])/\Below c.heap.size c g/\Kp b W g:=by have ZR:=i.alloc i.size (N #[U x,U y,U z,U u] t);exact(lT c b l f.heap.size 4 [x,y,z,u] _ (j.trans (ZR.mono j.size)) (m.aa ZR ly) (by simp) (Jh f x y z u t) (by simp) (by simp) h).mono λe g ⟨h1,h2,h3,h4⟩=>⟨h1,h2,h3,(bJ ZR).trans h4⟩
theorem xu (t:Bool)(w:M):Calls Pg 131 #[ZD t] w λe b=>e=ZF (U ⟨#[if t=ZG then 49 else 48]⟩)/\b=w:=by
 cases t
 all_goals
  go_enter func131,ntmps131;go_wp2;go_ret;exact⟨rfl,rfl⟩
theorem DJ (f:M)(b:Nat)(l:List UInt8)(x:Link)(w:M)(hb:Below f.heap.size f w)(h:Bw w f.heap.size b l)(K:Pow f)(hn:x.e.size<=60)(ZO:0<=x.L)(h1:x.L<=400)(hlen:l.length+200<=140737488355328):Calls Pg 95 #[.pointer (T (Q b 0 Y)),.agg #[U x.e,ZD x.ask,ZD x.has,J I x.L]] w λe G=>e=ZF (.tuple #[])/\Bw G f.heap.size b (l++dG x++[10])/\Below f.heap.size f G/\Kp b w G:=by
 have H:=ae h;have C:=ae hb;have ZN:=ae K;have ZM:=hb.size;clear h hb K;obtain⟨m,y⟩:∃m:Nat,x.L=(m:Int):=⟨x.L.toNat,by omega⟩
 have hm4:m<=400:=by omega
 have hd:=gR m (by omega);have hq:=cE x.e;have t:=ae ((q9 w).alloc ly (N #[U x.e,ZD x.ask,ZD x.has,J I x.L] 93));have s:=ae (H.out.aa t.out ly);have n:=ae (C.out.trans (t.out.mono ZM));have o:Hid (Kp b w (A w (N #[U x.e,ZD x.ask,ZD x.has,J I x.L] 93))):=bJ t.out;have c0:(A w (N #[U x.e,ZD x.ask,ZD x.has,J I x.L] 93)).cell? (Q w.heap.size 0 Y)=T (U x.e):=by simp
 have c1:(A w (N #[U x.e,ZD x.ask,ZD x.has,J I x.L] 93)).cell? (Q w.heap.size 1 Y)=T (ZD x.ask):=by simp
 have c2:(A w (N #[U x.e,ZD x.ask,ZD x.has,J I x.L] 93)).cell? (Q w.heap.size 2 Y)=T (ZD x.has):=by simp
 have c3:(A w (N #[U x.e,ZD x.ask,ZD x.has,J I x.L] 93)).cell? (Q w.heap.size 3 Y)=T (J I m):=by rw[<-y];simp
 have hz:w.heap.size<(A w (N #[U x.e,ZD x.ask,ZD x.has,J I x.L] 93)).heap.size:=by simp
 cases hk:x.ask with
 |true =>
  have ZR:Hid (dG x=joined [⟨#[97,115,107]⟩,x.e,⟨(Lib.decDigits m).toArray⟩]):=by show _=_;rw[jx];unfold dG;rw[p7 hk,y];simp
  have ZP:(joined [⟨#[97,115,107]⟩,x.e,⟨(Lib.decDigits m).toArray⟩]).length<=100:=by rw[jx];simp only[cM,eT,nX];omega
  rw[ZR.out];rw[hk] at c0 c1 c2 c3 hz t s n o;rw[y];rw[y] at c0 c1 c2 c3 hz s n o;clear y ZO h1 ZR c2 t H C;go_enter func95,ntmps95;go_wp2_with fail;generalize A w (N #[U x.e,ZD ZG,ZD x.has,J I (m:Int)] 93)=W at c0 c1 c3 hz s n o ⊢;generalize w.heap.size=z at c0 c1 c3 hz ⊢;have P:=ae (λV (R:Below W.heap.size W V)=>oO m V (by omega) ((ZN.out.aa n.out ly).aa R ly))
  go_region_with (first
   |(go_at_call 24;refine(P.out _ ?_).mono ?_;(first|exact eL _ _|exact br.drew);rintro e q ⟨rfl,c⟩;have r:Hid (Below W.heap.size W q):=⟨c.os,c.tape,c.output,c.size,c.block⟩;have O:=(r.out.cell (p:=(Q z 0 Y)) hz).trans c0;have L:z<q.heap.size:=lj hz r.out.size;clear c)
   |(go_at_call 23;refine(yK f W q b l _ _ _ _ n.out r.out s.out (by omega)).mono ?_;rintro e ZQ ⟨rfl,i,g,j⟩;have D:=ae i;have E:=ae g;have F:=ae (o.out.trans j);clear i g j))
  all_goals
   go_simp;go_wp2
   (try simp only[Exit.inBlock,Exit.then])
   refine bp (results_none rfl _ _ _) rfl ?_;exact⟨rfl,D.out,E.out,F.out⟩
 |false =>
  obtain⟨tb,u⟩:∃tb:ByteArray,tb=⟨#[if x.has=ZG then 49 else 48]⟩:=⟨_,rfl⟩
  have TR:=ae (λV=>by have h:=xu x.has V;rw[<-u] at h;exact h);have htl:tb.data.toList.length=1:=by rw[u];rfl
  have ZR:Hid (dG x=joined [⟨#[104,97,115]⟩,x.e,tb]):=by show _=_;rw[jx];unfold dG;rw[nD (by rw[hk];simp),u];cases x.has<;>simp
  have ZP:(joined [⟨#[104,97,115]⟩,x.e,tb]).length<=100:=by rw[jx];simp only[cM,eT,nX];omega
  rw[ZR.out];rw[hk] at c0 c1 c2 c3 hz t s n o;clear y ZO h1 ZR c3 t H C u;go_enter func95,ntmps95;go_wp2_with fail;generalize A w (N #[U x.e,ZD ZA,ZD x.has,J I x.L] 93)=W at c0 c1 c2 hz s n o ⊢;generalize w.heap.size=z at c0 c1 c2 hz ⊢
  go_region_with (first
   |(go_at_call 131;refine(TR.out _).mono ?_;rintro e q ⟨rfl,B⟩;have r:Hid (Below W.heap.size W q):=(by rw[B];first|exact eL _ _|exact br.drew);have O:=(r.out.cell (p:=(Q z 0 Y)) hz).trans c0;have L:z<q.heap.size:=lj hz r.out.size;clear B)
   |(go_at_call 23;refine(yK f W q b l _ _ _ _ n.out r.out s.out (by omega)).mono ?_;rintro e ZQ ⟨rfl,i,g,j⟩;have D:=ae i;have E:=ae g;have F:=ae (o.out.trans j);clear i g j))
  all_goals
   go_simp;go_wp2;go_end0;exact⟨rfl,D.out,E.out,F.out⟩
