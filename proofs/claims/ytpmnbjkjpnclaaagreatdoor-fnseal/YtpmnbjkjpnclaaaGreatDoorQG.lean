import Derived.Test.YtpmnbjkjpnclaaaGreatDoorRC
import Derived.Test.YtpmnbjkjpnclaaaGreatDoorQD
set_option maxRecDepth 100000
set_option maxHeartbeats 4000000
open Go renaming Addr.mk->Q,Value.slice->Z,Value.string->U,Value.int->N,Value.bool->ZD,Obj.cells->J,IntKind.i64->I,World->M,Value->ZC,TypeId->ZI,Ending.returned->ZF,World.alloc->A,Proofs.Tryz.prog->Pg
open Option renaming none->Y,some->T
open Bool renaming false->ZA,true->ZG
namespace Go.Proofs.YtpmnbjkjpnclaaaGreatDoor.Vp
open Tryz RowKit
variable {w:M}{B b C:Nat}{l:List UInt8}
theorem Ki:liesAt Pg Pg.depth 129 (2 / Pg.cellsOf 129) 0 127 1=ZG:=by kernel_rfl
def Bw (w:M)(B b:Nat)(l:List UInt8):Prop:=Lib.IsBuilder 129 5 B b (Lib.byteCells l) w
theorem Bw.lt (h:Bw w B b l):B<=b/\b<w.heap.size:=by
 rcases h with h|h;{exact⟨h.1,h.lt⟩};{exact⟨h.1,h.lt⟩}
theorem jW{i:M}{p:ZC}{l:List ZC}(h:Lib.BuilderAt 129 5 B b p l w)(hb:Below C w i)(o:w.heap.size<=C):Lib.BuilderAt 129 5 B b p l i:=by
 have hl:=h.lt;obtain⟨n,v,q,m,j⟩:=h;refine⟨n,v,by rw[hb.block b (by omega)];exact q,⟨m.1,?_⟩,j⟩;rcases m.2 with hn|⟨g,cap,c,s,t,f,r⟩
 {exact .inl hn};{exact .inr ⟨g,cap,c,s,t,by rw[hb.block g (lj (eT.1 f).1 o)];exact f,r⟩}
theorem Bw.aa{c:M}(h:Bw w B b l)(hb:Below C w c)(f:w.heap.size<=C):Bw c B b l :=
 h.elim (λx=>.inl (jW x hb f)) (λx=>.inr (jW x hb f))
theorem Bw.new (w:M):Bw (A w (J #[.pointer Y,Z Y 0 0] 129)) w.heap.size w.heap.size []:=by refine .inl ⟨n6 _,Z Y 0 0,?_,A9 _ _ _ _,by simp[Value.ownBlock]⟩;show(w.heap.push _)[w.heap.size]?=_;simp
abbrev Kp (b:Nat)(w c:M):Prop:=Lib.OthersKept 5 (T b) w c
theorem bM{f:M}(h:Below w.heap.size w f):Kp b w f:=by intro k o c _ _;rw[h.block k (eT.1 c).1];exact c
theorem vb{v:ZC}(h:Bs w B v l):∀g,v.ownBlock=T g->∃c fz,w.heap[g]?=T (J c 5 fz):=by
 intro g b;rcases h.2 with ⟨rfl,_⟩|⟨g',cap,i,rfl,_,f,_⟩
 {simp[Value.ownBlock] at b};{simp[Value.ownBlock] at b;subst b;exact⟨i,_,f⟩}
theorem pn (b:Nat)(w:M)(h0:w.cell? (Q b 0 Y)=T (.pointer Y))(c:w.shape? b=T (129,2))(hfz:w.frozen? (Q b 0 Y)=ZA):Calls Pg 195 #[.pointer (T (Q b 0 Y))] w λe h=>e=ZF (.tuple #[])/\h=w.setCell (Q b 0 Y) (.pointer (T (Q b 0 Y))):=by obtain⟨j,g,f⟩:=OQ.1 t6;go_enter VE,XV;go_wp2;rw[Lib.run_to_unsafe w (Q b 0 Y) QI SJ g (by rw[f];decide) c (Nat.zero_lt_succ 1)];simp only[Result.andThen];rw[TQ];go_wp2;rw[run_callFunc_extern func248 (by kernel_rfl) (by kernel_rfl) (by kernel_rfl) (e:=Extern.AbiNoEscape.same) (by kernel_rfl)];rw[Lib.run_noEscape];simp only[Result.andThen];rw[TQ];go_wp2;rw[Lib.run_from_unsafe w (Q b 0 Y) SJ QI g c Ki];simp only[Result.andThen];rw[TQ];go_wp2;go_end0;exact⟨rfl,rfl⟩
theorem qw (b:Nat)(w:M)(h0:w.cell? (Q b 0 Y)=T (.pointer (T (Q b 0 Y)))):Calls Pg 195 #[.pointer (T (Q b 0 Y))] w λe c=>e=ZF (.tuple #[])/\c=w:=by obtain⟨j,f,_⟩:=OQ.1 t6;go_enter VE,XV;go_wp2;rw[Lib.run_neq_ptr_same w _ QI f];go_wp2;go_end0;exact⟨rfl,rfl⟩
theorem lA (B b:Nat)(f:List ZC)(w:M)(h:Lib.IsBuilder 129 5 B b f w):Calls Pg 195 #[.pointer (T (Q b 0 Y))] w λe c=>e=ZF (.tuple #[])/\(Lib.BuilderAt 129 5 B b (.pointer (T (Q b 0 Y))) f c/\Below B w c/\Kp b w c):=by
 rcases h with h|h;{refine(pn b w h.cell0 h.shape h.frozen0).mono ?_;rintro e c ⟨rfl,rfl⟩;exact⟨rfl,h.used _,(dB B w).setCell (p:=(Q b 0 Y)) h.1 _,(RZ _ _ w).setCell (Q b 0 Y) rfl _⟩};{refine(qw b w h.cell0).mono ?_;rintro e c ⟨rfl,rfl⟩;exact⟨rfl,h,dB B _,RZ _ _ _⟩}
theorem rq (B b:Nat)(l:List UInt8)(c:UInt8)(w:M)(h:Bw w B b l)(hlen:l.length+1<=140737488355328)(hBw:B<=w.heap.size):Calls Pg 140 #[.pointer (T (Q b 0 Y)),N .u8 c.toNat] w λe z=>e=ZF .nilIface/\Bw z B b (l++[c])/\Below B w z/\Kp b w z:=by
 go_enter func140,ntmps140;go_wp2_with (go_at_call 195;refine(lA B b _ _ h).mono ?_);rintro e i ⟨rfl,h1,q,t⟩;have ZP:=ae t;clear t;have G:=h1.lt;obtain⟨F,v,n,j,u⟩:=h1;have c0:i.cell? (Q b 0 Y)=T (.pointer (T (Q b 0 Y))):=by rw[HU n];rfl
 have c1:i.cell? (Q b 1 Y)=T v:=by rw[HU n];rfl
 have m:Bs i B v l:=by rw[PE] at j;exact j
 have y:=ae m;have ZQ:=ae n;have L:=ae u;have ZS:=ae q;have hs1:w.heap.size<=i.heap.size:=q.size;clear j m n u q;go_wp2_with (at_builtin;refine lp rfl _ _ rfl B _ l rfl ?h1 (Q i.heap.size 0 Y) 1 [c] rfl ?h2 ?h3 ?h4 ?_);case h1=>exact y.aa (br.alloc ly _) ly
 case h2=>exact gF (by simp)
 case h3=>simp only[eL,nX];omega
 case h4=>simp;omega
 intro v' s r o;obtain⟨g,cap,rfl,hg3,hg4⟩:=r.av (by simp);have f:s.heap[b]?=T (J #[.pointer (T (Q b 0 Y)),v] 129 (0,0)):=by rw[o.block b (by simp;omega) (λe=>L.out e.symm),XP i _ b G];exact ZQ
 have d0:s.cell? (Q b 0 Y)=T (.pointer (T (Q b 0 Y))):=by rw[HU f];rfl
 have d1:s.cell? (Q b 1 Y)=T v:=by rw[HU f];rfl
 have f1:s.frozen? (Q b 1 Y)=ZA:=PC f 1;have D:=ae f;have C:=ae r;have x:=ae o;clear f r o;go_wp2;go_ret;refine⟨rfl,.inr (Lib.BuilderAt.put (ZM:=129) (e:=5) F D (bs':=Lib.byteCells (l++[c])) ?_ (by decide)),?_,?_⟩;{have:=C.out;unfold Bs at this;rw[PE];simpa using this};{exact((ZS.alloc (by omega) _).grown x (by simp;omega) (λk K=>(SF y k K).1)).setCell (p:=(Q b 1 Y)) F _}
 ·exact((ZP.alloc _).grown x (λg H=>by
   obtain⟨c,fz,E⟩:=vb y g H
   exact⟨c,fz,(XP i _ g (eT.1 E).1).trans E⟩)).setCell (Q b 1 Y) rfl _
theorem pp (B b:Nat)(l q:List UInt8)(w:M)(h:Bw w B b l)(hlen:l.length+q.length<=140737488355328)(hBw:B<=w.heap.size):Calls Pg 138 #[.pointer (T (Q b 0 Y)),U ⟨q.toArray⟩] w λe C=>(∃x,e=ZF x)/\Bw C B b (l++q)/\Below B w C/\Kp b w C:=by
 go_enter func138,ntmps138;go_wp2_with (go_at_call 195;refine(lA B b _ _ h).mono ?_);rintro e r ⟨rfl,h1,n,t⟩;have ZO:=ae t;clear t;have ZP:=h1.lt;obtain⟨ZQ,v,j,f,u⟩:=h1;have c0:r.cell? (Q b 0 Y)=T (.pointer (T (Q b 0 Y))):=by rw[HU j];rfl
 have c1:r.cell? (Q b 1 Y)=T v:=by rw[HU j];rfl
 have i:Bs r B v l:=by rw[PE] at f;exact f
 have ZS:=ae i;have ZR:=ae j;have P:=ae u;have D:=ae n;have hs1:w.heap.size<=r.heap.size:=n.size;clear f i j u n;go_wp2_with (at_builtin;refine yV rfl _ _ rfl B _ l rfl ?h1 q rfl ?h3 ?h4 ?_);case h1=>exact ZS
 case h3=>omega
 case h4=>omega
 intro L s o m;have c:s.heap[b]?=T (J #[.pointer (T (Q b 0 Y)),v] 129 (0,0)):=by rw[m.block b ZP (λe=>P.out e.symm)];exact ZR
 have d0:s.cell? (Q b 0 Y)=T (.pointer (T (Q b 0 Y))):=by rw[HU c];rfl
 have d1:s.cell? (Q b 1 Y)=T v:=by rw[HU c];rfl
 have f1:s.frozen? (Q b 1 Y)=ZA:=PC c 1;obtain⟨E,H,cap,rfl⟩:∃E H cap,L=Z E H cap:=by
  rcases o.2 with ⟨z,_⟩|⟨g,cap,cur,z,_⟩
  {exact⟨_,_,_,z⟩};{exact⟨_,_,_,z⟩}
 have G:=ae c;have F:=ae o;have y:=ae m;clear c o m;go_wp2;go_ret2;refine⟨⟨_,rfl⟩,.inr (Lib.BuilderAt.put (ZM:=129) (e:=5) ZQ G (bs':=Lib.byteCells (l++q)) ?_ (by decide)),?_,?_⟩;{have:=F.out;unfold Bs at this;rw[PE];exact this};{exact(D.grown y (by omega) (λk O=>(SF ZS k O).1)).setCell (p:=(Q b 1 Y)) ZQ _};{exact(ZO.grown y (λg K=>vb ZS g K)).setCell (Q b 1 Y) rfl _}
theorem Bw.buf (h:Bw w B b l):∃p i cap,w.heap[b]?=T (J #[p,Z i l.length cap] 129 (0,0)):=by
 have c:∀p,Lib.BuilderAt 129 5 B b p (Lib.byteCells l) w->∃p i cap,w.heap[b]?=T (J #[p,Z i l.length cap] 129 (0,0)):=by
  intro p n;obtain⟨_,v,j,m,_⟩:=n;rw[PE] at m;rcases m.2 with ⟨f,hz⟩|⟨g,cap,cur,f,_⟩
  {subst f;rw[hz];exact⟨_,_,_,j⟩};{subst f;exact⟨_,_,_,j⟩}
 exact h.elim (c _) (c _)
theorem EW (B b:Nat)(l:List UInt8)(w:M)(h:Bw w B b l):Calls Pg 81 #[.pointer (T (Q b 0 Y))] w λe g=>e=ZF (N I l.length)/\g=w:=by
 obtain⟨p,f,cap,c⟩:=h.buf;have c1:w.cell? (Q b 1 Y)=T (Z f l.length cap):=by rw[HU c];rfl
 clear c h;go_enter func81,ntmps81;go_wp2;go_ret;exact⟨rfl,rfl⟩
theorem cellsByte:Pg.cellsOf 5=1:=by kernel_rfl
theorem xk (B b:Nat)(l:List UInt8)(w:M)(h:Bw w B b l)(s:l≠[]):Calls Pg 82 #[.pointer (T (Q b 0 Y))] w λe G=>e=ZF (U ⟨l.toArray⟩)/\Below B w G:=by
 obtain⟨p,F⟩:∃p,Lib.BuilderAt 129 5 B b p (Lib.byteCells l) w:=h.elim (λx=>⟨_,x⟩) (λx=>⟨_,x⟩);obtain⟨hB,v,E,f,t⟩:=F;have y:l.length≠0:=by simpa using s
 rw[PE] at f;obtain⟨g,cap,c,rfl,z,H,D,o,ZS,i⟩:∃g cap c,v=Z (T (Q g 0 Y)) l.length cap/\B<=g/\w.heap[g]?=T (J c 5)/\l.length<=cap/\cap<=maxLen/\c.size=cap*1/\c.toList.take (l.length*1)=Lib.byteCells l:=by
  rcases f.2 with ⟨_,hz⟩|⟨g,cap,c,ZP,r⟩
  {exact absurd hz y};{exact⟨g,cap,c,ZP,r⟩}
 have c1:w.drew.cell? (Q b 1 Y)=T (Z (T (Q g 0 Y)) l.length cap):=by have:w.drew.heap[b]?=T (J #[p,Z (T (Q g 0 Y)) l.length cap] 129 (0,0)):=E;rw[HU this];rfl
 have hSD:(Builtin.unsafeSliceData_ #[22] 215 #[Z (T (Q g 0 Y)) l.length cap]).run Pg w.drew=.ok (.pointer (T (Q g 0 Y))) w.drew :=
  Lib.run_unsafeSliceData_row _ _ _ _ _ _ (by omega)
 have hUS:(Builtin.unsafeString_ #[215,3] 9 #[.pointer (T (Q g 0 Y)),N I l.length]).run Pg w.drew=.ok (U ⟨l.toArray⟩) (w.drew.freeze (Q g 0 Y) l.length):=by
  refine Lib.run_unsafeString_row w.drew 215 3 9 5 TK cellsByte g c.size (by have u:w.drew.heap[g]?=T (J c 5):=H;simp[World.shape?,u]) l s (by omega) (by unfold maxLen at o;omega) ?_;intro j x m;have C:j<l.length:=by
   rcases PR j l.length with q|q;{exact q};{rw[OT q] at m;cases m}
  have ZQ:=Bs.cell (w:=w) (base:=B) (g:=g) (cap:=cap) (n:=l.length) (l:=l) f j C;rw[gq C] at m;obtain rfl:=BC m;exact ZQ
 have mixed:Pg.follows .mixedOrders=ZG:=by kernel_rfl
 clear f t i ZS o D;go_enter func82,ntmps82;go_wp2;go_region_o;all_goals (go_wp2;go_ret;exact⟨rfl,Lib.below_freeze (TF (dB B w)) (p:=(Q g 0 Y)) z _⟩)
abbrev joined (b:List ByteArray):List UInt8:=Lib.join (b.map (·.data.toList)) [32]
theorem mj (n:M)(b:Nat)(l:List UInt8)(g c:Nat)(f:List ByteArray)(w:M)(hb:Below n.heap.size n w)(h:Bw w n.heap.size b l)(E:g<w.heap.size)(m:∀(j:Nat) x,f[j]?=T x->w.cell? (Q g (0+j) Y)=T (U x))(C:f.length<=c)(hn:f.length<=10)(B:l.length+(joined f).length+1<=140737488355328):Calls Pg 79 #[.pointer (T (Q b 0 Y)),Z (T (Q g 0 Y)) f.length c] w λe o=>e=ZF (.tuple #[])/\Bw o n.heap.size b (l++joined f++[10])/\Below n.heap.size n o/\Kp b w o:=by
 have ZQ:=ae (λW (K:Below w.heap.size w W)=>Tryz.strings_Join g 0 c f ⟨#[32]⟩ W (λj x ZN=>(K.cell (p:=(Q g (0+j) Y)) E).trans (m j x ZN)) (lj E K.size) (by omega) C (by show(joined f).length<=_;omega));have H:=ae h;have S:=ae hb;have G:=hb.size;have hlt:=h.lt;clear m h hb;obtain⟨ZM,ZS⟩:∃ZM,ZM=joined f:=⟨_,rfl⟩
 have ZP:Hid (∀W,Below w.heap.size w W->Calls Pg 139 #[Z (T (Q g 0 Y)) f.length c,U ⟨#[32]⟩] W λe o=>e=ZF (U ⟨ZM.toArray⟩)/\Below W.heap.size W o):=by rw[ZS];exact ZQ
 rw[<-ZS] at B ⊢;clear ZS ZQ;go_enter func79,ntmps79;go_wp2_with fail
 go_region_with (first
  |(go_at_call 139;refine(ZP _ ?_).mono ?_;(first|exact dB _ _|exact br.drew);rintro e F ⟨rfl,i⟩;have q:Hid (Below w.heap.size w F):=⟨i.os,i.tape,i.output,i.size,i.block⟩;have O:=ae (H.aa q ly);have ZL:Hid (Kp b w F):=bM q.out;clear i)
  |(go_at_call 138;refine(pp n.heap.size b l ZM _ O (by omega) (p7 G q.size)).mono ?_;rintro e w2 ⟨⟨x,rfl⟩,s,z,y⟩;have ZR:=ae s;have R:=ae (ZL.trans y);have D:=ae ((S.trans (q.mono G)).trans z);clear s z y))
 all_goals
  go_simp;go_wp2_with fail;refine(rq n.heap.size b _ 10 _ ZR (by simp only[cM];omega) D.size).mono ?_;rintro e w3 ⟨rfl,r,t,u⟩;have P:=ae (R.trans u);have ZO:=ae r;have L:=ae (D.trans t);clear r t u;go_wp2;go_end0;exact⟨rfl,ZO,L,P⟩
theorem lC (a b:ByteArray):joined [a,b]=a.data.toList++[32]++b.data.toList:=by simp[joined,Lib.join]
theorem jI (a b c:ByteArray):joined [a,b,c]=a.data.toList++[32]++b.data.toList++[32]++c.data.toList:=by simp[joined,Lib.join]
theorem yk (a b c d:ByteArray):joined [a,b,c,d]=a.data.toList++[32]++b.data.toList++[32]++c.data.toList++[32]++d.data.toList:=by simp[joined,Lib.join]
theorem KC (w:M)(a b c:ByteArray)(t:ZI):∀(j:Nat) x,([a,b,c]:List ByteArray)[j]?=T x->(A w (J #[U a,U b,U c] t)).cell? (Q w.heap.size (0+j) Y)=T (U x):=by
 intro j x f;rcases j with _|_|_|j;{simp at f;subst f;simp};{simp at f;subst f;simp};{simp at f;subst f;simp};{simp at f}
theorem KD (w:M)(a b:ByteArray)(t:ZI):∀(j:Nat) x,([a,b]:List ByteArray)[j]?=T x->(A w (J #[U a,U b] t)).cell? (Q w.heap.size (0+j) Y)=T (U x):=by
 intro j x c;rcases j with _|_|j;{simp at c;subst c;simp};{simp at c;subst c;simp};{simp at c}
theorem KE (w:M)(a b c d:ByteArray)(t:ZI):∀(j:Nat) x,([a,b,c,d]:List ByteArray)[j]?=T x->(A w (J #[U a,U b,U c,U d] t)).cell? (Q w.heap.size (0+j) Y)=T (U x):=by
 intro j x f;rcases j with _|_|_|_|j;{simp at f;subst f;simp};{simp at f;subst f;simp};{simp at f;subst f;simp};{simp at f;subst f;simp};{simp at f}
theorem KF (w:M)(a:ByteArray)(t:ZI):∀(j:Nat) x,([a]:List ByteArray)[j]?=T x->(A w (J #[U a] t)).cell? (Q w.heap.size (0+j) Y)=T (U x):=by
 intro j x b;rcases j with _|j;{simp at b;subst b;simp};{simp at b}
theorem Kj (c W f:M)(b:Nat)(l:List UInt8)(x:ByteArray)(t:ZI)(j:Below c.heap.size c W)(i:Below W.heap.size W f)(m:Bw W c.heap.size b l)(h:l.length+(joined [x]).length+1<=140737488355328):Calls Pg 79 #[.pointer (T (Q b 0 Y)),Z (T (Q f.heap.size 0 Y)) 1 1] (A f (J #[U x] t)) λe g=>e=ZF (.tuple #[])/\Bw g c.heap.size b (l++joined [x]++[10])/\Below c.heap.size c g/\Kp b W g:=by have ZS:=i.alloc i.size (J #[U x] t);exact(mj c b l f.heap.size 1 [x] _ (j.trans (ZS.mono j.size)) (m.aa ZS ly) (by simp) (KF f x t) (by simp) (by simp) h).mono λe g ⟨h1,h2,h3,h4⟩=>⟨h1,h2,h3,(bM ZS).trans h4⟩
theorem zP (c W f:M)(b:Nat)(l:List UInt8)(x y:ByteArray)(t:ZI)(j:Below c.heap.size c W)(i:Below W.heap.size W f)(m:Bw W c.heap.size b l)(h:l.length+(joined [x,y]).length+1<=140737488355328):Calls Pg 79 #[.pointer (T (Q b 0 Y)),Z (T (Q f.heap.size 0 Y)) 2 2] (A f (J #[U x,U y] t)) λe g=>e=ZF (.tuple #[])/\Bw g c.heap.size b (l++joined [x,y]++[10])/\Below c.heap.size c g/\Kp b W g:=by have ZS:=i.alloc i.size (J #[U x,U y] t);exact(mj c b l f.heap.size 2 [x,y] _ (j.trans (ZS.mono j.size)) (m.aa ZS ly) (by simp) (KD f x y t) (by simp) (by simp) h).mono λe g ⟨h1,h2,h3,h4⟩=>⟨h1,h2,h3,(bM ZS).trans h4⟩
theorem zQ (c W f:M)(b:Nat)(l:List UInt8)(x y z:ByteArray)(t:ZI)(j:Below c.heap.size c W)(i:Below W.heap.size W f)(m:Bw W c.heap.size b l)(h:l.length+(joined [x,y,z]).length+1<=140737488355328):Calls Pg 79 #[.pointer (T (Q b 0 Y)),Z (T (Q f.heap.size 0 Y)) 3 3] (A f (J #[U x,U y,U z] t)) λe g=>e=ZF (.tuple #[])/\Bw g c.heap.size b (l++joined [x,y,z]++[10])/\Below c.heap.size c g/\Kp b W g:=by have ZS:=i.alloc i.size (J #[U x,U y,U z] t);exact(mj c b l f.heap.size 3 [x,y,z] _ (j.trans (ZS.mono j.size)) (m.aa ZS ly) (by simp) (KC f x y z t) (by simp) (by simp) h).mono λe g ⟨h1,h2,h3,h4⟩=>⟨h1,h2,h3,(bM ZS).trans h4⟩
theorem Kk (c W f:M)(b:Nat)(l:List UInt8)(x y z u:ByteArray)(t:ZI)(j:Below c.heap.size c W)(i:Below W.heap.size W f)(m:Bw W c.heap.size b l)(h:l.length+(joined [x,y,z,u]).length+1<=140737488355328):Calls Pg 79 #[.pointer (T (Q b 0 Y)),Z (T (Q f.heap.size 0 Y)) 4 4] (A f (J #[U x,U y,U z,U u] t)) λe g=>e=ZF (.tuple #[])/\Bw g c.heap.size b (l++joined [x,y,z,u]++[10])/\Below c.heap.size c g/\Kp b W g:=by have ZS:=i.alloc i.size (J #[U x,U y,U z,U u] t);exact(mj c b l f.heap.size 4 [x,y,z,u] _ (j.trans (ZS.mono j.size)) (m.aa ZS ly) (by simp) (KE f x y z u t) (by simp) (by simp) h).mono λe g ⟨h1,h2,h3,h4⟩=>⟨h1,h2,h3,(bM ZS).trans h4⟩
theorem ym (t:Bool)(w:M):Calls Pg 249 #[ZD t] w λe b=>e=ZF (U ⟨#[if t=ZG then 49 else 48]⟩)/\b=w:=by
 cases t
 all_goals
  go_enter func249,ntmps249;go_wp2;go_ret;exact⟨rfl,rfl⟩
theorem EX (f:M)(b:Nat)(l:List UInt8)(x:Link)(w:M)(hb:Below f.heap.size f w)(h:Bw w f.heap.size b l)(L:Pow f)(hn:x.e.size<=60)(ZQ:0<=x.L)(h1:x.L<=400)(hlen:l.length+200<=140737488355328):Calls Pg 198 #[.pointer (T (Q b 0 Y)),.agg #[U x.e,ZD x.ask,ZD x.has,N I x.L]] w λe E=>e=ZF (.tuple #[])/\Bw E f.heap.size b (l++dI x++[10])/\Below f.heap.size f E/\Kp b w E:=by
 have H:=ae h;have G:=ae hb;have ZR:=ae L;have O:=hb.size;clear h hb L;obtain⟨m,y⟩:∃m:Nat,x.L=(m:Int):=⟨x.L.toNat,by omega⟩
 have hm4:m<=400:=by omega
 have hd:=gX m (by omega);have hq:=cF x.e;have r:=ae ((q9 w).alloc ly (J #[U x.e,ZD x.ask,ZD x.has,N I x.L] 91));have t:=ae (H.aa r ly);have i:=ae (G.trans (r.mono O));have s:Hid (Kp b w (A w (J #[U x.e,ZD x.ask,ZD x.has,N I x.L] 91))):=bM r;have c0:(A w (J #[U x.e,ZD x.ask,ZD x.has,N I x.L] 91)).cell? (Q w.heap.size 0 Y)=T (U x.e):=by simp
 have c1:(A w (J #[U x.e,ZD x.ask,ZD x.has,N I x.L] 91)).cell? (Q w.heap.size 1 Y)=T (ZD x.ask):=by simp
 have c2:(A w (J #[U x.e,ZD x.ask,ZD x.has,N I x.L] 91)).cell? (Q w.heap.size 2 Y)=T (ZD x.has):=by simp
 have c3:(A w (J #[U x.e,ZD x.ask,ZD x.has,N I x.L] 91)).cell? (Q w.heap.size 3 Y)=T (N I m):=by rw[<-y];simp
 have hz:w.heap.size<(A w (J #[U x.e,ZD x.ask,ZD x.has,N I x.L] 91)).heap.size:=by simp
 cases hk:x.ask with
 |true =>
  have z:Hid (dI x=joined [⟨#[97,115,107]⟩,x.e,⟨(Lib.decDigits m).toArray⟩]):=by show _=_;rw[jI];unfold dI;rw[p6 hk,y];simp
  have ZP:(joined [⟨#[97,115,107]⟩,x.e,⟨(Lib.decDigits m).toArray⟩]).length<=100:=by rw[jI];simp only[cM,eL,nX];omega
  rw[z.out];rw[hk] at c0 c1 c2 c3 hz r t i s;rw[y];rw[y] at c0 c1 c2 c3 hz t i s;clear y ZQ h1 z c2 r H G;go_enter func198,ntmps198;go_wp2_with fail;generalize A w (J #[U x.e,ZD ZG,ZD x.has,N I (m:Int)] 91)=W at c0 c1 c3 hz t i s ⊢;generalize w.heap.size=ZS at c0 c1 c3 hz ⊢;have ZO:=ae (λV (R:Below W.heap.size W V)=>pk m V (by omega) ((ZR.aa i ly).aa R ly))
  go_region_with (first
   |(go_at_call 55;refine(ZO _ ?_).mono ?_;(first|exact dB _ _|exact br.drew);rintro e q ⟨rfl,c⟩;have o:Hid (Below W.heap.size W q):=⟨c.os,c.tape,c.output,c.size,c.block⟩;have ZN:=(o.cell (p:=(Q ZS 0 Y)) hz).trans c0;have K:ZS<q.heap.size:=lj hz o.size;clear c)
   |(go_at_call 79;refine(zQ f W q b l _ _ _ _ i o t (by omega)).mono ?_;rintro e P ⟨rfl,g,n,j⟩;have D:=ae g;have C:=ae n;have F:=ae (s.trans j);clear g n j))
  all_goals
   go_simp;go_wp2
   (try simp only[Exit.inBlock,Exit.then])
   refine bp (results_none rfl _ _ _) rfl ?_;exact⟨rfl,D,C,F⟩
 |false =>
  obtain⟨tb,u⟩:∃tb:ByteArray,tb=⟨#[if x.has=ZG then 49 else 48]⟩:=⟨_,rfl⟩
  have TR:=ae (λV=>by have h:=ym x.has V;rw[<-u] at h;exact h);have htl:tb.data.toList.length=1:=by rw[u];rfl
  have z:Hid (dI x=joined [⟨#[104,97,115]⟩,x.e,tb]):=by show _=_;rw[jI];unfold dI;rw[gM (by rw[hk];simp),u];cases x.has<;>simp
  have ZP:(joined [⟨#[104,97,115]⟩,x.e,tb]).length<=100:=by rw[jI];simp only[cM,eL,nX];omega
  rw[z.out];rw[hk] at c0 c1 c2 c3 hz r t i s;clear y ZQ h1 z c3 r H G u;go_enter func198,ntmps198;go_wp2_with fail;generalize A w (J #[U x.e,ZD ZA,ZD x.has,N I x.L] 91)=W at c0 c1 c2 hz t i s ⊢;generalize w.heap.size=ZS at c0 c1 c2 hz ⊢
  go_region_with (first
   |(go_at_call 249;refine(TR _).mono ?_;rintro e q ⟨rfl,B⟩;have o:Hid (Below W.heap.size W q):=(by rw[B];first|exact dB _ _|exact br.drew);have ZN:=(o.cell (p:=(Q ZS 0 Y)) hz).trans c0;have K:ZS<q.heap.size:=lj hz o.size;clear B)
   |(go_at_call 79;refine(zQ f W q b l _ _ _ _ i o t (by omega)).mono ?_;rintro e P ⟨rfl,g,n,j⟩;have D:=ae g;have C:=ae n;have F:=ae (s.trans j);clear g n j))
  all_goals
   go_simp;go_wp2;go_end0;exact⟨rfl,D,C,F⟩
