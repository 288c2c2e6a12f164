import Derived.Test.YtamacmnikdejeaaGreatDoorZV
import Derived.Test.YtamacmnikdejeaaGreatDoorZC
import Derived.Test.YtamacmnikdejeaaGreatDoorZF
set_option maxRecDepth 100000
set_option maxHeartbeats 8000000
open Go.Addr renaming mk->T
open Go.Value renaming slice->Y,string->U,int->I,bool->QT,agg->QV
open Option renaming none->Z,some->N
open Go.Obj renaming cells->Q
open Go.IntKind renaming i64->J
open Go renaming World->H,Value->QS
open Bool renaming false->QQ
namespace Go.Proofs.YtamacmnikdejeaaGreatDoor.Vp
open RowKit
def cU (f:Nat->aj)(d:Int)(x:Nat × Nat):Int:=if (f x.1).kind=3/\60<=x.2/\(d<0∨(x.1:Int)<d) then (x.1:Int) else d
def cR (f:Nat->aj)(d:Int):List (Nat × Nat)->Int
 | []=>d
 | x :: xs=>cR f (cU f d x) xs
theorem mD (f:Nat->aj)(d:Int)(b c:List (Nat × Nat)):cR f d (b++c)=cR f (cR f d b) c:=by
 induction b generalizing d with
 | nil=>rfl
 | cons x b g=>simp only[KH,cR];exact g _
theorem xx (f:Nat->aj)(d:Int)(x y:Nat × Nat):cU f (cU f d x) y=cU f (cU f d y) x:=by
 unfold cU;by_cases b:(f x.1).kind=3/\60<=x.2
 ·by_cases c:(f y.1).kind=3/\60<=y.2
  ·simp only[b.1,b.2,c.1,c.2,PR]
   (repeat' split)<;>omega
  ·have e:∀ z:Prop,¬ ((f y.1).kind=3/\60<=y.2/\z):=fun z h=>c ⟨h.1,h.2.1⟩
   rw[eI (e _),eI (e _)]
 ·have e:∀ z:Prop,¬ ((f x.1).kind=3/\60<=x.2/\z):=fun z h=>b ⟨h.1,h.2.1⟩
  rw[eI (e _),eI (e _)]
theorem uU (f:Nat->aj)(d:Int)(x:Nat × Nat)(b:List (Nat × Nat)):cR f (cU f d x) b=cU f (cR f d b) x:=by
 induction b generalizing d with
 | nil=>rfl
 | cons y ys c =>simp only[cR];rw[xx,c]
def TyAt (w:H)(g:Nat)(e:TypeId):Prop:=∃ b,w.heap[g]?=N (Q b e (0,0))
structure Kpt (ZB M:Nat)(W W':H):Prop where
 size:W.heap.size<=W'.heap.size
 keep:∀ k e,TyAt W k e->e≠3->k≠ZB->k≠M->W'.heap[k]?=W.heap[k]?
theorem Kpt.trans {ZB M:Nat}{A B C:H}(h:Kpt ZB M A B)(k:Kpt ZB M B C):Kpt ZB M A C :=
 ⟨j4 h.size k.size,fun i e hi b h1 h2=>by
  have f:=h.keep i e hi b h1 h2;obtain⟨c,g⟩:=hi
  exact(k.keep i e ⟨c,f.trans g⟩ b h1 h2).trans f⟩
theorem Kpt.of_below {ZB M:Nat}{W b:H}(h:Below W.heap.size W b):Kpt ZB M W b :=
 ⟨h.size,fun k e f _ _ _=>by obtain⟨c,g⟩:=f;exact h.block k (nX.1 g).1⟩
theorem Kpt.setCell {ZB M j:Nat}(W:H)(g:Nat)(hg:g=ZB∨g=M)(v:QS):Kpt ZB M W (W.setCell (T g j Z) v) :=
 ⟨by simp,fun k _ _ _ h1 h2=>qh _ _ _ _ (by show k≠g;omega)⟩
structure SLs (w0 W:H)(n1 b off n cap ZB M:Nat)(s:Nat->Bool)(ov:QS)(ord:List Nat)(dp:Int):Prop where
 c0:W.cell? (T ZB 0 Z)=N (Y (N (T b off Z)) n cap)
 c1:W.cell? (T ZB 1 Z)=N (Y (N (T M 0 Z)) n n)
 c2:W.cell? (T ZB 2 Z)=N ov/\W.frozen? (T ZB 2 Z)=QQ
 c3:W.cell? (T ZB 3 Z)=N (I J dp)/\W.frozen? (T ZB 3 Z)=QQ
 row:∀ q,q<n->W.cell? (T M q Z)=N (QT (s q))/\W.frozen? (T M q Z)=QQ
 ord:W.ownsRow n1 3 1 ov ord.length (ord.map fun q:Nat=>Value.int J (q:Int))
 low:Below w0.heap.size w0 W
 hH:w0.heap.size<=ZB/\ZB<n1
 hM:w0.heap.size<=M/\M<n1
 ne:ZB≠M
 hz:n1<=W.heap.size
theorem SLs.blocks {i W f:H}{n1 b off n cap ZB M:Nat}{s:Nat->Bool}{l j:QS}{ord g:List Nat}{m:Int}(h:SLs i W n1 b off n cap ZB M s l ord m)(hz:W.heap.size<=f.heap.size)(r:f.heap[ZB]?=W.heap[ZB]?)(t:f.heap[M]?=W.heap[M]?)(u:Below i.heap.size i f)(x:j=l)(y:f.ownsRow n1 3 1 l g.length (g.map fun q:Nat=>Value.int J (q:Int))):SLs i f n1 b off n cap ZB M s j g m:=by subst x;have c:∀ o,f.cell? (T ZB o Z)=W.cell? (T ZB o Z):=fun o=>cj (a:=(T ZB o Z)) r;have z:∀ o,f.frozen? (T ZB o Z)=W.frozen? (T ZB o Z):=fun o=>JW (a:=(T ZB o Z)) r;exact⟨(c 0).trans h.c0,(c 1).trans h.c1,⟨(c 2).trans h.c2.1,(z 2).trans h.c2.2⟩,⟨(c 3).trans h.c3.1,(z 3).trans h.c3.2⟩,fun q p=>⟨(cj (a:=(T M q Z)) t).trans (h.row q p).1,(JW (a:=(T M q Z)) t).trans (h.row q p).2⟩,y,u,h.hH,h.hM,h.ne,j4 h.hz hz⟩
theorem SLs.below {f W g:H}{n1 b off n cap ZB M:Nat}{s:Nat->Bool}{i:QS}{ord:List Nat}{c:Int}(h:SLs f W n1 b off n cap ZB M s i ord c)(hb:Below W.heap.size W g):SLs f g n1 b off n cap ZB M s i ord c :=
 h.blocks hb.size (hb.block ZB (by have:=h.hH;have:=h.hz;omega)) (hb.block M (by have:=h.hM;have:=h.hz;omega)) (h.low.trans (hb.mono h.low.size)) rfl (own_below h.ord hb ly)
theorem oF {w:H}{b c n R j:Nat}{e:TypeId}{v:QS}{g:List QS}(h:w.ownsRow b e c v n g)(hR:R<b)(u:QS):(w.setCell (T R j Z) u).ownsRow b e c v n g:=by
 refine h.kept (row:=N R) ⟨rfl,rfl,rfl,by simp[World.setCell],fun k _ f=>qh _ _ _ _ (by simpa using f)⟩ ?_;cases hv:v.ownBlock with
 | none=>exact .inl rfl
 | some k=>exact .inr fun i=>by have:=(h.lt k hv).1;cases i;omega
theorem SLs.mark {i W:H}{n1 b off n cap ZB M p:Nat}{s:Nat->Bool}{j:QS}{ord:List Nat}{g:Int}(h:SLs i W n1 b off n cap ZB M s j ord g)(hp:p<n):SLs i (W.setCell (T M p Z) (QT true)) n1 b off n cap ZB M (put s p) j ord g:=by
 have c:∀ o,(W.setCell (T M p Z) (QT true)).cell? (T ZB o Z)=W.cell? (T ZB o Z):=fun o=>sq _ _ _ _ (by first | (simp;done) | (simp;exact fun e=>absurd e.symm h.ne) | (simp;exact fun e=>absurd e h.ne) | (simp;omega));refine⟨(c 0).trans h.c0,(c 1).trans h.c1,⟨(c 2).trans h.c2.1,by simpa using h.c2.2⟩,⟨(c 3).trans h.c3.1,by simpa using h.c3.2⟩,fun q f=>⟨?_,by simpa using(h.row q f).2⟩,oF h.ord h.hM.2 _,h.low.setCell h.hM.1 _,h.hH,h.hM,h.ne,by simpa using h.hz⟩;by_cases e:q=p
 ·subst e
  rw[p7 _ _ _ (by rw[(h.row q f).1];rfl)];simp[put]
 ·rw[sq _ _ _ _ (by first | (simp;done) | (simp;exact fun e=>absurd e.symm h.ne) | (simp;exact fun e=>absurd e h.ne) | (simp;omega)),(h.row q f).1]
  simp[put,e]
theorem SLs.deep {g W:H}{n1 b off n cap ZB M:Nat}{s:Nat->Bool}{i:QS}{ord:List Nat}{j:Int}(h:SLs g W n1 b off n cap ZB M s i ord j)(v:Int):SLs g (W.setCell (T ZB 3 Z) (I J v)) n1 b off n cap ZB M s i ord v:=by have c:∀ o,o≠3->(W.setCell (T ZB 3 Z) (I J v)).cell? (T ZB o Z)=W.cell? (T ZB o Z):=fun o ho=>sq _ _ _ _ (by first | (simp;done) | (simp;exact fun e=>absurd e.symm h.ne) | (simp;exact fun e=>absurd e h.ne) | (simp;omega));refine⟨(c 0 (by omega)).trans h.c0,(c 1 (by omega)).trans h.c1,⟨(c 2 (by omega)).trans h.c2.1,by simpa using h.c2.2⟩,⟨p7 _ _ _ (by rw[h.c3.1];rfl),by simpa using h.c3.2⟩,fun q f=>⟨(sq _ _ _ _ (by first | (simp;done) | (simp;exact fun e=>absurd e.symm h.ne) | (simp;exact fun e=>absurd e h.ne) | (simp;omega))).trans (h.row q f).1,by simpa using(h.row q f).2⟩,oF h.ord h.hH.2 _,h.low.setCell h.hH.1 _,h.hH,h.hM,h.ne,by simpa using h.hz⟩
end Go.Proofs.YtamacmnikdejeaaGreatDoor.Vp
namespace Go.Proofs.YtamacmnikdejeaaGreatDoor.Vp
open RowKit Ca
abbrev TlR:=Tl × Option Addr × Nat
def tlV (r:TlR):List QS:=[I J r.1.kind,U r.1.text,Y r.2.1 r.1.actN r.2.2]
theorem Bi:(Tryz.prog.info? 111).map (fun i=>(i.zero,i.size,i.bytes))=N (N (QV #[I J 0,U ⟨#[]⟩,Y Z 0 0]),3,48):=by kernel_rfl
theorem Ed {w:H}{c size n:Nat}{e:TypeId}{v:QS}{j:List QS}(h:w.ownsRow c e size v n j):∀ k,v.ownBlock=N k->OfTy w k e:=by
 intro k b;rcases h.2 with ⟨rfl,_⟩ | ⟨g,cap,f,rfl,_,i,_⟩
 ·simp[Value.ownBlock] at b
 ·simp[Value.ownBlock] at b
  subst b;exact⟨f,_,i⟩
theorem jV (w:H)(f g c:QS)(t:TypeId):∀ j u,[f,g,c][j]?=N u->(w.alloc (Q #[f,g,c] t)).cell? (((T w.heap.size 0 Z):Addr).add j)=N u:=by
 intro j u b;have hj:j<3:=by have:=(gM.1 b).1;simpa using this
 have h:=qt w f g c t;have i:((T w.heap.size 0 Z):Addr).add j=(T w.heap.size (0+j) Z):=by unfold Addr.add;split<;>simp_all
 rw[i,DN];rcases(show j=0∨j=1∨j=2 by omega) with rfl | rfl | rfl;all_goals simp only[OH,MY,JL] at b;subst b
 ·exact h.c0
 ·exact h.c1
 ·exact h.c2
theorem kN {w:H}{b size n:Nat}{e:TypeId}{v:QS}{f:List QS}(h:w.ownsRow b e size v n f)(hn:0<n):∃ g cap,v=Y (N (T g 0 Z)) n cap:=by
 rcases h.2 with ⟨_,h2⟩ | ⟨g,c,cur,h1,_⟩
 ·omega
 ·exact⟨g,c,h1⟩
structure DBx (w:H)(b:Nat)(x:aj)(a4:Option Addr)(c4:Nat)(a5:Option Addr)(c5:Nat):Prop where
 lt:b<w.heap.size
 ty:OfTy w b 46
 c0:w.cell? (T b 0 Z)=N (U x.name)
 c1:w.cell? (T b 1 Z)=N (I J x.kind)
 c3:w.cell? (T b 3 Z)=N (U x.text)
 c4:w.cell? (T b 4 Z)=N (Y a4 x.actN c4)
 c5:w.cell? (T b 5 Z)=N (Y a5 x.linksN c5)
theorem DBx.blk {w w':H}{b:Nat}{x:aj}{g:Option Addr}{c4:Nat}{f:Option Addr}{c5:Nat}(h:DBx w b x g c4 f c5)(hz:w.heap.size<=w'.heap.size)(e:w'.heap[b]?=w.heap[b]?):DBx w' b x g c4 f c5 :=
 have c:∀ o,w'.cell? (T b o Z)=w.cell? (T b o Z):=fun o=>cj (a:=(T b o Z)) e
 ⟨lj h.lt hz,h.ty.eq e,(c 0).trans h.c0,(c 1).trans h.c1,(c 3).trans h.c3,(c 4).trans h.c4,(c 5).trans h.c5⟩
theorem En (w:H)(x:aj)(c:Option Addr)(c4:Nat)(b:Option Addr)(c5:Nat):DBx (w.alloc (Q #[U x.name,I J x.kind,I J x.code,U x.text,Y c x.actN c4,Y b x.linksN c5] 46)) w.heap.size x c c4 b c5 :=
 ⟨by simp,OfTy.new _ _ _,by simp,by simp,by simp,by simp,by simp⟩
structure TSt (w W:H)(b off n cap:Nat)(D:Nat)(x:aj)(a4:Option Addr)(c4:Nat)(a5:Option Addr)(c5:Nat)(v:QS)(Q2:List TlR):Prop where
 lt:w.heap.size<W.heap.size
 ca:W.cell? (T w.heap.size 0 Z)=N (Y (N (T b off Z)) n cap)
 ta:OfTy W w.heap.size 25
 d:DBx W D x a4 c4 a5 c5
 own:W.ownsRow w.heap.size 111 3 v Q2.length (Q2.flatMap tlV)
 low:Below w.heap.size w W
theorem TSt.below {w W g:H}{b off n cap D:Nat}{x:aj}{f:Option Addr}{c4:Nat}{c:Option Addr}{c5:Nat}{v:QS}{Q2:List TlR}(s:TSt w W b off n cap D x f c4 c c5 v Q2)(hb:Below W.heap.size W g):TSt w g b off n cap D x f c4 c c5 v Q2 :=
 ⟨lj s.lt hb.size,(hb.cell (p:=(T w.heap.size 0 Z)) s.lt).trans s.ca,s.ta.eq (hb.block _ s.lt),s.d.blk hb.size (hb.block _ s.d.lt),own_below s.own hb ly,s.low.trans (hb.mono s.low.size)⟩
theorem TSt.more {w W h W':H}{b off n cap D:Nat}{x:aj}{i:Option Addr}{c4:Nat}{m:Option Addr}{c5:Nat}{v l:QS}{Q2:List TlR}{r:TlR}(s:TSt w W b off n cap D x i c4 m c5 v Q2)(hb:Below W.heap.size W h)(g:W'.ownsRow w.heap.size 111 3 l (Q2.length+1) (Q2.flatMap tlV++tlV r))(f:h.grownBy W' v.ownBlock):TSt w W' b off n cap D x i c4 m c5 l (Q2++[r]):=by have c:=s.below hb;have o:=f.block w.heap.size c.lt (fun e=>(Ed c.own _ e.symm).ne (by decide) c.ta);have p:=f.block D c.d.lt (fun e=>(Ed c.own _ e.symm).ne (by decide) c.d.ty);exact⟨lj c.lt f.size,(cj (a:=(T w.heap.size 0 Z)) o).trans c.ca,c.ta.eq o,c.d.blk f.size p,by simpa using g,bg c.low f (QD c.lt) (fun j e=>(c.own.lt j e).1)⟩
theorem nS (b off n cap:Nat)(f:Nat->aj)(t:ByteArray)(w:H)(hn:(n:Int)<=400)(hf:RowDeed w b off n f)(qr:∀ p,p<n->(f p).linksN<=200):Calls Tryz.prog 54 #[QV #[Y (N (T b off Z)) n cap],U t] w fun e w'=>∃ (a:Option Addr) (c:Nat) (Q2:List TlR),e=.returned (Y a Q2.length c)/\w'.ownsRow w.heap.size 111 3 (Y a Q2.length c) Q2.length (Q2.flatMap tlV)/\(∀ r∈Q2,SlIns w r.2.1 r.1.actN r.1.act)/\Q2.map (fun r=>r.1)=aJ f t.toList n/\Below w.heap.size w w':=by
 have HF:=ae hf;have HL:=ae qr;clear hf qr;obtain⟨i1,hi,QX,aq,QY⟩:=JV Bi;have A0:=ae (((q9 w).alloc ly (Q #[Y (N (T b off Z)) n cap] 25)).alloc (by simp) (Q #[] 111));have k0:((w.alloc (Q #[Y (N (T b off Z)) n cap] 25)).alloc (Q #[] 111)).cell? (T w.heap.size 0 Z)=N (Y (N (T b off Z)) n cap):=by simp
 have t0:OfTy ((w.alloc (Q #[Y (N (T b off Z)) n cap] 25)).alloc (Q #[] 111)) w.heap.size 25:=(OfTy.new w _ _).eq (MI _ _ (by simp));have z0:w.heap.size<((w.alloc (Q #[Y (N (T b off Z)) n cap] 25)).alloc (Q #[] 111)).heap.size:=by simp;omega
 have O0:((w.alloc (Q #[Y (N (T b off Z)) n cap] 25)).alloc (Q #[] 111)).ownsRow w.heap.size 111 3 (Y (N (T (w.heap.size+1) 0 Z)) 0 0) 0 []:=by have:=J9 (base:=w.heap.size) (e:=111) (size:=3) (w.alloc (Q #[Y (N (T b off Z)) n cap] 25)) #[] 0 (by simp) (by unfold maxLen;omega) rfl;simpa using this
 have fd:=ae k0;have bt:=ae t0;have n9:=ae O0;clear k0 t0 O0;go_enter Tryz.func54,Tryz.ntmps54;go_wp2;generalize (w.alloc (Q #[Y (N (T b off Z)) n cap] 25)).alloc (Q #[] 111)=W at A0 fd bt n9 z0 ⊢;go_loopw [5,6] (fun v i wr=>∃ (k:Nat) (Q2:List TlR) (a:Option Addr) (c:Nat),k<=n/\i=I J k/\v=Y a Q2.length c/\w.heap.size<wr.heap.size/\Hid (wr.cell? (T w.heap.size 0 Z)=N (Y (N (T b off Z)) n cap)/\OfTy wr w.heap.size 25)/\Hid (wr.ownsRow w.heap.size 111 3 (Y a Q2.length c) Q2.length (Q2.flatMap tlV))/\Hid (∀ r∈Q2,SlIns w r.2.1 r.1.actN r.1.act)/\Hid (Q2.map (fun r=>r.1)=aJ f t.toList k)/\Hid (Below w.heap.size w wr)) (fun _ i _=>n - (intOf i).toNat);case atStart=>exact⟨0,[],N (T (w.heap.size+1) 0 Z),0,by omega,rfl,rfl,z0,⟨fd.out,bt.out⟩,n9.out,fun r l=>absurd l (by simp),rfl,A0.out⟩
 case round =>
  clear A0 fd bt n9 z0;obtain⟨k,Q2,a,c,hk,rfl,rfl,V,CA,OW,SI,HE,P⟩:=hrel;have ca:=CA.out.1;by_cases S:k<n
  ·obtain⟨p0,p1,p2,p3,⟨q,c4,p4,q4⟩,⟨ZB,c5,p5,q5⟩⟩:=(HF.out.below P.out ly).2 k S
   have n8:Hid (SlIns w q (f k).actN (f k).act):=by
    obtain⟨_,_,_,_,⟨a4',c4',DE,Fk⟩,_⟩:=HF.out.2 k S;have:=(P.out.cell (p:=(T b (off+k*6+4) Z)) HF.out.1).trans DE;rw[p4] at this;cases this
    exact Fk
   have Q5:Hid (SlLink w ZB (f k).linksN (f k).links):=by
    obtain⟨_,_,_,_,_,⟨a5',c5',Fd,Fn⟩⟩:=HF.out.2 k S;have:=(P.out.cell (p:=(T b (off+k*6+5) Z)) HF.out.1).trans Fd;rw[p5] at this;cases this
    exact Fn
   have th:=HL.out k S;have mv:Hid (aJ f t.toList (k+1)=aJ f t.toList k++(if (f k).name.toList=t.toList then [dY (f k)] else [])++cD (f k).links t.toList (f k).linksN):=rfl;have GC:Q2.length<=k*201:=by have h1:=JN List.length HE.out;rw[KO] at h1;rw[h1];exact kq fun p hp=>HL.out p (by omega)
   clear q4 q5;generalize f k=x at p0 p1 p2 p3 p4 p5 n8 Q5 th mv;have A2:=ae ((q9 wr).alloc ly (Q #[U x.name,I J x.kind,I J x.code,U x.text,Y q x.actN c4,Y ZB x.linksN c5] 46));have s:Hid (TSt w (wr.alloc (Q #[U x.name,I J x.kind,I J x.code,U x.text,Y q x.actN c4,Y ZB x.linksN c5] 46)) b off n cap wr.heap.size x q c4 ZB c5 (Y a Q2.length c) Q2):=⟨lj V A2.out.size,(A2.out.cell (p:=(T w.heap.size 0 Z)) V).trans ca,CA.out.2.eq (A2.out.block _ V),En wr x q c4 ZB c5,OW.out.alloc _,P.out.trans (A2.out.mono P.out.size)⟩
   have d0:=s.out.d.c0;go_upto_if 27 with fail;generalize wr.alloc (Q #[U x.name,I J x.kind,I J x.code,U x.text,Y q x.actN c4,Y ZB x.linksN c5] 46)=B at s d0 ⊢;generalize wr.heap.size=D at s d0 ⊢;clear A2 CA OW P ca p0 p1 p2 p3 p4 p5 V;go_cut [5] (fun v wx=>∃ (F:List TlR) (a2:Option Addr) (c2:Nat),v=Y a2 F.length c2/\F.length<=k*201+1/\Hid (TSt w wx b off n cap D x q c4 ZB c5 (Y a2 F.length c2) F)/\Hid (∀ r∈F,SlIns w r.2.1 r.1.actN r.1.act)/\Hid (F.map (fun r=>r.1)=aJ f t.toList k++(if x.name.toList=t.toList then [dY x] else [])));case first =>
    cases hb:(x.name.toList == t.toList) with
    | false =>
     have G:¬ x.name.toList=t.toList:=by simpa using hb
     have R:Hid (Q2.map (fun r=>r.1)=aJ f t.toList k++(if x.name.toList=t.toList then [dY x] else [])):=by show _=_;rw[eI G,L8];exact HE.out
     clear G;go_wp2;go_meet;exact⟨Q2,a,c,rfl,by omega,s.out,SI.out,R.out⟩
    | true =>
     have K:x.name.toList=t.toList:=by simpa using hb
     have X:=ae K;clear K;have d1:=s.out.d.c1;have d3:=s.out.d.c3;have d4:=s.out.d.c4;have Q0:=ae ((q9 B).alloc ly (Q #[I J x.kind,U ⟨#[]⟩,Y q x.actN c4] 111));have x1:=(Q0.out.cell (p:=(T D 1 Z)) s.out.d.lt).trans d1;have x3:=(Q0.out.cell (p:=(T D 3 Z)) s.out.d.lt).trans d3;cases h1:(x.kind == 1) with
     | false =>
      have Q9:¬ x.kind=1:=by simpa using h1
      have la:Hid (dY x=⟨x.kind,⟨#[]⟩,x.actN,x.act⟩):=by show _=_;rw[dY,eI Q9]
      clear Q9;have B3:=ae (((q9 B).alloc ly (Q #[I J x.kind,U ⟨#[]⟩,Y q x.actN c4] 111)).alloc (by simp) (Q #[I J x.kind,U ⟨#[]⟩,Y q x.actN c4] 111));go_wp2_with (at_builtin;refine wC _ rfl (.tmp 39) (.tmp 41) 107 rfl w.heap.size 111 i1 (QV #[I J 0,U ⟨#[]⟩,Y Z 0 0]) 3 48 Tryz.underlying107 hi QX aq QY rfl (by decide) (Y a Q2.length c) Q2.length (Q2.flatMap tlV) (by simp[Act.eval]) ((s.out.own.alloc _).alloc _) (T (B.heap.size+1) 0 Z) 1 1 [I J x.kind,U ⟨#[]⟩,Y q x.actN c4] (by simp[Act.eval]) rfl (by rw[show B.heap.size+1=(B.alloc (Q #[I J x.kind,U ⟨#[]⟩,Y q x.actN c4] 111)).heap.size by simp];exact jV _ _ _ _ _) (by simp[Value.oneCell']) (by unfold maxLen;omega) (by omega) (by have:=s.out.lt;simp;omega) ?_;intro v' w8 g o A;obtain⟨O,M,rfl⟩:=kN g (by omega);have z:=ae (s.out.more (r:=(⟨x.kind,⟨#[]⟩,x.actN,x.act⟩,q,c4)) B3.out g o);clear g o A);go_meet;refine⟨Q2++[(⟨x.kind,⟨#[]⟩,x.actN,x.act⟩,q,c4)],N (T O 0 Z),M,by simp,by simp;omega,by show TSt _ _ _ _ _ _ _ _ _ _ _ _ _ _;simpa using z.out,?_,?_⟩
      ·intro r l
       rcases hU.1 l with l | l
       ·exact SI.out r l
       ·simp at l;subst l;exact n8.out
      ·show _=_
       rw[gA X.out,CV,HE.out,la.out];rfl
     | true =>
      have Q9:x.kind=1:=by simpa using h1
      have la:Hid (dY x=⟨x.kind,x.text,x.actN,x.act⟩):=by show _=_;rw[dY,gA Q9]
      clear Q9;have B3:=ae (((q9 B).alloc ly (Q #[I J x.kind,U x.text,Y q x.actN c4] 111)).alloc (by simp) (Q #[I J x.kind,U x.text,Y q x.actN c4] 111));go_upto_region 10 with fail;clear h1 Q0 x1 x3 d1 d3 d4;go_wp2_with (at_builtin;refine wC _ rfl (.tmp 39) (.tmp 41) 107 rfl w.heap.size 111 i1 (QV #[I J 0,U ⟨#[]⟩,Y Z 0 0]) 3 48 Tryz.underlying107 hi QX aq QY rfl (by decide) (Y a Q2.length c) Q2.length (Q2.flatMap tlV) (by simp[Act.eval]) ((s.out.own.alloc _).alloc _) (T (B.heap.size+1) 0 Z) 1 1 [I J x.kind,U x.text,Y q x.actN c4] (by simp[Act.eval]) rfl (by rw[show B.heap.size+1=(B.alloc (Q #[I J x.kind,U x.text,Y q x.actN c4] 111)).heap.size by simp];exact jV _ _ _ _ _) (by simp[Value.oneCell']) (by unfold maxLen;omega) (by omega) (by have:=s.out.lt;simp;omega) ?_;intro v' w8 g o A;obtain⟨O,M,rfl⟩:=kN g (by omega);have S5:=ae (s.out.more (r:=(⟨x.kind,x.text,x.actN,x.act⟩,q,c4)) B3.out g o);clear g o A);go_meet;refine⟨Q2++[(⟨x.kind,x.text,x.actN,x.act⟩,q,c4)],N (T O 0 Z),M,by simp,by simp;omega,by show TSt _ _ _ _ _ _ _ _ _ _ _ _ _ _;simpa using S5.out,?_,?_⟩
      ·intro r l
       rcases hU.1 l with l | l
       ·exact SI.out r l
       ·simp at l;subst l;exact n8.out
      ·show _=_
       rw[gA X.out,CV,HE.out,la.out];rfl
   case rest =>
   clear s d0 SI HE GC;obtain⟨F,a2,c2,rfl,DQ,s,ur,R⟩:=hcut;have L:=s.out.d.c5;generalize sm:x.linksN=ln at L Q5 mv th;have Fm:=ae sm;clear sm;go_wp2;go_loopw [5,9] (fun v j wr=>∃ (m:Nat) (u:List TlR) (C:Option Addr) (c3:Nat),m<=ln/\j=I J m/\v=Y C u.length c3/\Hid (TSt w wr b off n cap D x q c4 ZB c5 (Y C u.length c3) u)/\Hid (∀ r∈u,SlIns w r.2.1 r.1.actN r.1.act)/\u.length<=k*201+1+m/\Hid (u.map (fun r=>r.1)=(aJ f t.toList k++(if x.name.toList=t.toList then [dY x] else []))++cD x.links t.toList m)) (fun _ j _=>ln - (intOf j).toNat);case atStart=>exact⟨0,F,a2,c2,by omega,rfl,rfl,s.out,ur.out,by omega,by show _=_;rw[cD,L8];exact R.out⟩
   case round =>
    clear s ur R DQ L;obtain⟨m,u,C,c3,hm,rfl,rfl,z,E,hT3,ZA⟩:=hrel;have L:=z.out.d.c5;rw[Fm.out] at L;by_cases At:m<ln
    ·obtain⟨b6,o6,rfl,ld⟩:=(Q5.out.below z.out.low ly).resolve_left (by omega)
     obtain⟨r0,r1,r2,r3⟩:=ld.2 m At;have Bk:=ld.1;have QW:Hid (cD x.links t.toList (m+1)=cD x.links t.toList m++(if (x.links m).name.toList=t.toList/\(x.links m).ask=QQ then [dZ (x.links m)] else [])):=rfl;clear r3 ld;generalize x.links m=y at r0 r1 r2 QW;cases hb:(y.name.toList == t.toList) with
     | false =>
      have G:¬ y.name.toList=t.toList:=by simpa using hb
      have QZ:Hid (cD x.links t.toList (m+1)=cD x.links t.toList m):=by show _=_;rw[QW.out,eI (fun h=>G h.1),L8]
      clear G;go_wp2;exact⟨⟨m+1,u,C,c3,by omega,by go_num,rfl,z.out,E.out,by omega,by show _=_;rw[QZ.out];exact ZA.out⟩,by simp[intOf];omega⟩
     | true =>
      have K:y.name.toList=t.toList:=by simpa using hb
      have X:=ae K;clear K;cases hask:y.ask with
      | true =>
       have QZ:Hid (cD x.links t.toList (m+1)=cD x.links t.toList m):=by show _=_;rw[QW.out,eI (fun h=>by rw[hask] at h;cases h.2),L8]
       rw[hask] at r1;go_wp2;exact⟨⟨m+1,u,C,c3,by omega,by go_num,rfl,z.out,E.out,by omega,by show _=_;rw[QZ.out];exact ZA.out⟩,by simp[intOf];omega⟩
      | false =>
       have ro:Hid (cD x.links t.toList (m+1)=cD x.links t.toList m++[dZ y]):=by show _=_;rw[QW.out,gA ⟨X.out,hask⟩]
       rw[hask] at r1;have Q0:=(q9 wr).alloc ly (Q #[I J 5,U ⟨#[]⟩,Y Z 0 0] 111);have x5:=(Q0.cell (p:=(T D 5 Z)) z.out.d.lt).trans L;have x2:=(Q0.cell (p:=(T b6 (o6+m*4+2) Z)) Bk).trans r2;clear Q0;cases hhas:y.has with
       | true =>
        rw[hhas] at r2 x2;have B4:=ae (((q9 wr).alloc ly (Q #[I J 4,U ⟨#[]⟩,Y Z 0 0] 111)).alloc (by simp) (Q #[I J 4,U ⟨#[]⟩,Y Z 0 0] 111));have ph:Hid (dZ y=⟨4,⟨#[]⟩,0,lB⟩):=by show _=_;rw[dZ,hhas];rfl
        go_upto_region 18 with fail;clear x5 x2 L r0 r1 r2;go_wp2_with (at_builtin;refine wC _ rfl (.tmp 75) (.tmp 77) 107 rfl w.heap.size 111 i1 (QV #[I J 0,U ⟨#[]⟩,Y Z 0 0]) 3 48 Tryz.underlying107 hi QX aq QY rfl (by decide) (Y C u.length c3) u.length (u.flatMap tlV) (by simp[Act.eval]) ((z.out.own.alloc _).alloc _) (T (wr.heap.size+1) 0 Z) 1 1 [I J 4,U ⟨#[]⟩,Y Z 0 0] (by simp[Act.eval]) rfl (by rw[show wr.heap.size+1=(wr.alloc (Q #[I J 4,U ⟨#[]⟩,Y Z 0 0] 111)).heap.size by simp];exact jV _ _ _ _ _) (by simp[Value.oneCell']) (by unfold maxLen;omega) (by omega) (by have:=z.out.lt;simp;omega) ?_;intro v' w8 g o A;obtain⟨O,M,rfl⟩:=kN g (by omega);have S5:=ae (z.out.more (r:=(⟨4,⟨#[]⟩,0,lB⟩,Z,0)) B4.out g o);clear g o A);refine⟨⟨m+1,u++[(⟨4,⟨#[]⟩,0,lB⟩,Z,0)],N (T O 0 Z),M,by omega,by go_num,by simp,by show TSt _ _ _ _ _ _ _ _ _ _ _ _ _ _;simpa using S5.out,?_,by simp;omega,?_⟩,by simp[intOf];omega⟩
        ·intro r l
         rcases hU.1 l with l | l
         ·exact E.out r l
         ·simp at l;subst l;exact .inl rfl
        ·show _=_
         rw[ro.out,CV,ZA.out,ph.out,JM];rfl
       | false =>
        rw[hhas] at r2 x2;have B4:=ae (((q9 wr).alloc ly (Q #[I J 5,U ⟨#[]⟩,Y Z 0 0] 111)).alloc (by simp) (Q #[I J 5,U ⟨#[]⟩,Y Z 0 0] 111));have ph:Hid (dZ y=⟨5,⟨#[]⟩,0,lB⟩):=by show _=_;rw[dZ,hhas];rfl
        go_upto_region 18 with fail;clear x5 x2 L r0 r1 r2;go_wp2_with (at_builtin;refine wC _ rfl (.tmp 75) (.tmp 77) 107 rfl w.heap.size 111 i1 (QV #[I J 0,U ⟨#[]⟩,Y Z 0 0]) 3 48 Tryz.underlying107 hi QX aq QY rfl (by decide) (Y C u.length c3) u.length (u.flatMap tlV) (by simp[Act.eval]) ((z.out.own.alloc _).alloc _) (T (wr.heap.size+1) 0 Z) 1 1 [I J 5,U ⟨#[]⟩,Y Z 0 0] (by simp[Act.eval]) rfl (by rw[show wr.heap.size+1=(wr.alloc (Q #[I J 5,U ⟨#[]⟩,Y Z 0 0] 111)).heap.size by simp];exact jV _ _ _ _ _) (by simp[Value.oneCell']) (by unfold maxLen;omega) (by omega) (by have:=z.out.lt;simp;omega) ?_;intro v' w8 g o A;obtain⟨O,M,rfl⟩:=kN g (by omega);have S5:=ae (z.out.more (r:=(⟨5,⟨#[]⟩,0,lB⟩,Z,0)) B4.out g o);clear g o A);refine⟨⟨m+1,u++[(⟨5,⟨#[]⟩,0,lB⟩,Z,0)],N (T O 0 Z),M,by omega,by go_num,by simp,by show TSt _ _ _ _ _ _ _ _ _ _ _ _ _ _;simpa using S5.out,?_,by simp;omega,?_⟩,by simp[intOf];omega⟩
        ·intro r l
         rcases hU.1 l with l | l
         ·exact E.out r l
         ·simp at l;subst l;exact .inl rfl
        ·show _=_
         rw[ro.out,CV,ZA.out,ph.out,JM];rfl
    ·have em:m=ln:=by omega
     subst em;go_wp2;refine⟨⟨k+1,u,C,c3,by omega,by go_num,rfl,z.out.lt,⟨z.out.ca,z.out.ta⟩,z.out.own,E.out,?_,z.out.low⟩,by simp[intOf];omega⟩;show _=_;rw[ZA.out,mv.out]
  ·have e:k=n:=by omega
   subst e;go_wp2;go_ret;exact⟨a,c,Q2,rfl,OW.out,SI.out,HE.out,P.out⟩
end Go.Proofs.YtamacmnikdejeaaGreatDoor.Vp
