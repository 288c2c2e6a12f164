import Derived.Test.YtoddkejemcbkmaaGreatDoorRA
import Derived.Test.YtoddkejemcbkmaaGreatDoorRG
set_option linter.unusedSimpArgs false
open Go renaming Addr.mk->Q,Value.slice->Z,Value.string->U,Value.int->J,Obj.cells->N,IntKind.i64->I,World->M,Value->ZC,TypeId->ZH
open Option renaming none->Y,some->T
open Bool renaming false->ZA
namespace Go.Proofs.YtoddkejemcbkmaaGreatDoor.Vp
open RowKit Ca
variable {w f p:M}{b c g j n size:Nat}{R:List DR}{r:DR}{ty e:ZH}{m:ZC}{o:Array ZC}{x:Ins}
theorem rJ{cap:Nat}{f:List ZC}(h:w.ownsRow b e size (Z (T (Q g 0 Y)) n cap) n f)(u:ZC):(w.setCell (Q g j Y) u).ownsRow b e size (Z (T (Q g 0 Y)) n cap) n (f.set j u):=by
 refine⟨by rw[LN];exact h.1,?_⟩;rcases h.2 with ⟨c,h0⟩|⟨g',cap',i,c,hb,l,h1,h2,h3,h4⟩
 {simp at c};{simp only[ML,MU,Q0] at c;obtain⟨⟨rfl,-⟩,-,rfl⟩:=c;refine .inr ⟨g,cap,i.setIfInBounds j u,rfl,hb,?_,h1,h2,by simpa using h3,?_⟩;{simp[World.setCell,CV,l]};{rw[PD,UA,h4]}}
theorem eJ{g:ZH}{v:ZC}{f:List ZC}(h:w.ownsRow c e size v n f)(hb:OfTy w b g)(i:g≠e)(j:Nat)(u:ZC):(w.setCell (Q b j Y) u).ownsRow c e size v n f :=
 bE h λk _ l=>qh _ _ _ _ λq=>hb.ne (UT i) ((show k=b from q) ▸ l)
theorem Dl (d:Deed)(x:Ins):bH (d.doA x).G (d.doA x).f=bH d.G d.f++gQ x:=by
 show((List.range (d.f+1)).map _).flatMap gQ=_;rw[MY,BG,BM];congr 1;{unfold bH;congr 1;refine UL λi hi=>?_;have:=NH.1 hi;show(if i=d.f then x else d.G i)=d.G i;rw[nD (by omega)]};{simp[Deed.doA]}
theorem Dm (d:Deed)(x:Link):bo (d.lkA x).m (d.lkA x).b=bo d.m d.b++cP x:=by
 show((List.range (d.b+1)).map _).flatMap cP=_;rw[MY,BG,BM];congr 1;{unfold bo;congr 1;refine UL λi hi=>?_;have:=NH.1 hi;show(if i=d.b then x else d.m i)=d.m i;rw[nD (by omega)]};{simp[Deed.lkA]}
theorem xj (R:List DR)(r b:DR)(j:Nat)(u:ZC)(hj:j<6)(e:ddV b=(ddV r).set j u):(R++[b]).flatMap ddV=((R++[r]).flatMap ddV).set (R.length*6+j) u:=by have c:(R.flatMap ddV).length=R.length*6:=eP ddV 6 (λ_=>rfl) R;rw[BM,BM,P9 _ _ (by omega),c,Nat.add_sub_cancel_left];simp[e]
theorem rK{c:DR}(h:(R++[r]).Pairwise λa b=>Apt a.2.1 b.2.1/\Apt a.2.2 b.2.2)(k:∀a∈R,Apt a.2.1 r.2.1/\Apt a.2.2 r.2.2->Apt a.2.1 c.2.1/\Apt a.2.2 c.2.2):(R++[c]).Pairwise λa b=>Apt a.2.1 b.2.1/\Apt a.2.2 b.2.2:=by rw[NI] at h ⊢;refine⟨h.1,TI _ _,λa f b hb=>?_⟩;rw[nL.1 hb];exact k a f (h.2.2 a f r (by simp))
theorem xk{a v f:ZC}{j:List ZC}(h:w.ownsRow b e size a n j)(i:Apt a v)(g:f.ownBlock=v.ownBlock∨f.ownBlock=T w.heap.size):Apt a f:=by
 rcases i with c|c;{exact .inl c};{rcases g with h1|h1;{exact .inr (by rw[h1];exact c)};{refine .inr λe=>?_;have:=(h.lt w.heap.size (e.trans h1)).2;omega}}
theorem DRow.moreA{m:M}{f:Nat}{b:ZC}(h:DRow w f (Z (T (Q g 0 Y)) (R.length+1) c) (R++[r]))(t:m.ownsRow f 90 3 b (r.1.f+1) (bH r.1.G r.1.f++gQ x))(G:w.grownBy m r.2.1.ownBlock)(D:b.ownBlock=r.2.1.ownBlock∨b.ownBlock=T w.heap.size):DRow (m.setCell (Q g (R.length*6+4) Y) b) f (Z (T (Q g 0 Y)) (R.length+1) c) (R++[(r.1.doA x,b,r.2.2)]):=by
 have F:(R++[r]).length=R.length+1:=by simp
 have y:=h.i;rw[F] at y;have tg:OfTy w g 62:=bq y g rfl;have E:=h.sub r (by simp);have keep:∀k,k<w.heap.size->¬ r.2.1.ownBlock=T k->m.heap[k]?=w.heap[k]?:=λk l hn=>G.block k l (λe=>hn e.symm);have o:∀k e,OfTy w k e->e≠90->m.heap[k]?=w.heap[k]?:=λk e i C=>keep k (by obtain⟨c',z,l⟩:=i;exact(gM.1 l).1) λq=>i.ne (UT C) (bq E.G k q);have p:OfTy m g 62:=tg.eq (o g _ tg (by decide));have B:m.ownsRow f 62 6 (Z (T (Q g 0 Y)) (R.length+1) c) (R.length+1) ((R++[r]).flatMap ddV):=bE y λk _ i=>o k _ i (by decide);refine⟨?_,λa j=>?_,rK h.up λa j s=>⟨xk (h.sub a (by simp[j])).G s.1 D,s.2⟩⟩;{rw[show(R++[(r.1.doA x,b,r.2.2)]).length=R.length+1 by simp,xj R r (r.1.doA x,b,r.2.2) 4 b (by omega) rfl];exact rJ B b};{rcases p8.1 j with j|j;{have u:=h.sub a (by simp[j]);have s:=(NI.1 h.up).2.2 a j r (by simp);refine⟨eJ (bE u.G λk l i=>keep k (u.G.lt k l).2 λq=>?_) p (by decide) _ _,eJ (bE u.V λk _ i=>o k _ i (by decide)) p (by decide) _ _⟩;rcases s.1 with A|A;{rw[A] at l;cases l};{exact A (l.trans q.symm)}};{rw[nL.1 j];refine⟨eJ (v:=b) (n:=r.1.f+1) ?_ p (by decide) _ _,eJ (v:=r.2.2) (n:=r.1.b) (bE E.V λk _ i=>o k _ i (by decide)) p (by decide) _ _⟩;show m.ownsRow f 90 3 b (r.1.f+1) (bH (r.1.doA x).G (r.1.doA x).f);rw[Dl];exact t}}
theorem DRow.moreL{m:M}{f:Nat}{x:Link}{b:ZC}(h:DRow w f (Z (T (Q g 0 Y)) (R.length+1) c) (R++[r]))(t:m.ownsRow f 93 4 b (r.1.b+1) (bo r.1.m r.1.b++cP x))(G:w.grownBy m r.2.2.ownBlock)(D:b.ownBlock=r.2.2.ownBlock∨b.ownBlock=T w.heap.size):DRow (m.setCell (Q g (R.length*6+5) Y) b) f (Z (T (Q g 0 Y)) (R.length+1) c) (R++[(r.1.lkA x,r.2.1,b)]):=by
 have F:(R++[r]).length=R.length+1:=by simp
 have y:=h.i;rw[F] at y;have tg:OfTy w g 62:=bq y g rfl;have E:=h.sub r (by simp);have keep:∀k,k<w.heap.size->¬ r.2.2.ownBlock=T k->m.heap[k]?=w.heap[k]?:=λk l hn=>G.block k l (λe=>hn e.symm);have o:∀k e,OfTy w k e->e≠93->m.heap[k]?=w.heap[k]?:=λk e i C=>keep k (by obtain⟨c',z,l⟩:=i;exact(gM.1 l).1) λq=>i.ne (UT C) (bq E.V k q);have p:OfTy m g 62:=tg.eq (o g _ tg (by decide));have B:m.ownsRow f 62 6 (Z (T (Q g 0 Y)) (R.length+1) c) (R.length+1) ((R++[r]).flatMap ddV):=bE y λk _ i=>o k _ i (by decide);refine⟨?_,λa j=>?_,rK h.up λa j s=>⟨s.1,xk (h.sub a (by simp[j])).V s.2 D⟩⟩;{rw[show(R++[(r.1.lkA x,r.2.1,b)]).length=R.length+1 by simp,xj R r (r.1.lkA x,r.2.1,b) 5 b (by omega) rfl];exact rJ B b};{rcases p8.1 j with j|j;{have u:=h.sub a (by simp[j]);have s:=(NI.1 h.up).2.2 a j r (by simp);refine⟨eJ (bE u.G λk _ i=>o k _ i (by decide)) p (by decide) _ _,eJ (bE u.V λk l i=>keep k (u.V.lt k l).2 λq=>?_) p (by decide) _ _⟩;rcases s.2 with A|A;{rw[A] at l;cases l};{exact A (l.trans q.symm)}};{rw[nL.1 j];refine⟨eJ (v:=r.2.1) (n:=r.1.f) (bE E.G λk _ i=>o k _ i (by decide)) p (by decide) _ _,eJ (v:=b) (n:=r.1.b+1) ?_ p (by decide) _ _⟩;show m.ownsRow f 93 4 b (r.1.b+1) (bo (r.1.lkA x).m (r.1.lkA x).b);rw[Dm];exact t}}
def Of3 (w:M)(k:Nat):Prop:=OfTy w k 90∨OfTy w k 93∨OfTy w k 62
theorem Of3.of_eq{b:M}{k:Nat}(h:Of3 b k)(hb:b.heap[k]?=w.heap[k]?):Of3 w k:=h.imp (λh=>h.of_eq hb) (λh=>h.imp (λh=>h.of_eq hb) (λh=>h.of_eq hb))
structure KR (b base:Nat)(w w':M):Prop where
 os:w'.os=w.os
 tape:w'.tape=w.tape
 output:w'.output=w.output
 size:w.heap.size<=w'.heap.size
 keep:∀k,k<w.heap.size->k≠b->(k<base∨¬ Of3 w k)->w'.heap[k]?=w.heap[k]?
theorem KR.refl (b c:Nat)(w:M):KR b c w w:=⟨rfl,rfl,rfl,n8 _,λ_ _ _ _=>rfl⟩
theorem KR.trans{u v:M}(h:KR b c u v)(k:KR b c v w):KR b c u w :=
 ⟨k.os.trans h.os,k.tape.trans h.tape,k.output.trans h.output,p9 h.size k.size,λi hi hb f=>by
  have e:=h.keep i hi hb f
  exact(k.keep i (lj hi h.size) hb (f.imp id λhn g=>hn (g.of_eq e))).trans e⟩
theorem KR.u{B:Nat}(h:Below B w f)(hB:w.heap.size<=B):KR b c w f:=⟨h.os,h.tape,h.output,h.size,λk hk _ _=>h.block k (by omega)⟩
theorem KR.of_grown{g:M}{row:Option Nat}(h:w.grownBy g row)(j:∀k,row=T k->c<=k/\Of3 w k):KR b c w g :=
 ⟨h.os,h.tape,h.output,h.size,λk i _ f=>h.block k i (λe=>by
  obtain⟨h1,h2⟩:=j k e.symm;rcases f with f|f
  ·omega
  ·exact f h2)⟩
theorem KR.H (w:M)(j:Nat)(v:ZC):KR b c w (w.setCell (Q b j Y) v) :=
 ⟨rfl,rfl,rfl,by simp[World.setCell],λk _ hb _=>qh _ _ _ _ hb⟩
theorem KR.cell{base:Nat}(w:M)(hg:base<=g)(f:Of3 w g)(j:Nat)(v:ZC):KR b base w (w.setCell (Q g j Y) v) :=
 ⟨rfl,rfl,rfl,by simp[World.setCell],λk _ _ c=>qh _ _ _ _ (λe=>by
  have e:k=g:=e;subst e;rcases c with c|c
  ·omega
  ·exact c f)⟩
theorem KR.aa (h:KR b c w f)(hb:n<=b)(hn:n<=c)(hz:n<=w.heap.size):Below n w f:=⟨h.os,h.tape,h.output,h.size,λk hk=>h.keep k (by omega) (by omega) (.inl (by omega))⟩
def RdB (w:M)(b:Nat)(v:ZC):Prop:=w.heap[b]?=T (N #[v] 105 (0,0))
theorem RdB.lt{v:ZC}(h:RdB w b v):b<w.heap.size:=(gM.1 h).1
theorem RdB.c0{v:ZC}(h:RdB w b v):w.cell? (Q b 0 Y)=T v:=by rw[IA h];rfl
theorem RdB.fz{v:ZC}(h:RdB w b v):w.frozen? (Q b 0 Y)=ZA:=MW h 0
theorem RdB.set{v:ZC}(h:RdB w b v)(c:ZC):RdB (w.setCell (Q b 0 Y) c) b c:=by unfold RdB at *;simp[World.setCell,CV,h]
structure RSt (w:M)(b base:Nat)(v:ZC)(R:List DR):Prop where
 H:RdB w b v
 row:DRow w base v R
 lt:b<base
 le:base<=w.heap.size
theorem RSt.aa{v:ZC}(h:RSt w b c v R)(hb:Below w.heap.size w f):RSt f b c v R :=
 ⟨(hb.block b h.H.lt).trans h.H,h.row.aa hb ly,h.lt,p9 h.le hb.size⟩
theorem cA (w:M)(a b c d e f:ZC)(t:ZH):∀j u,[a,b,c,d,e,f][j]?=T u->(w.alloc (N #[a,b,c,d,e,f] t)).cell? (((Q w.heap.size 0 Y):Addr).add j)=T u:=by intro j u g;rw[addr_add,F6];exact jb w _ t w.heap.size j u rfl (by simpa using g)
theorem RSt.ad{o:M}{v g:ZC}{name text:ByteArray}{kind code:Int}{m:Array ZC}(h:RSt w b c v R)(r:Below w.heap.size w o)
  (n:f.ownsRow c 62 6 g (R.length+1) (R.flatMap ddV++[U name,J I kind,J I code,U text,Z Y 0 0,Z Y 0 0])) (i:(o.alloc (N m ty)).grownBy f v.ownBlock) :
  RSt (f.setCell (Q b 0 Y) g) b c g (R++[(aQ name kind code text,Z Y 0 0,Z Y 0 0)])/\KR b c w (f.setCell (Q b 0 Y) g)/\RdB f b v:=by
 have l:=r.alloc r.size (N m ty);have h1:=h.aa l;have s:DSub (o.alloc (N m ty)) w.heap.size (aQ name kind code text,Z Y 0 0,Z Y 0 0):=⟨AT _ _ _ _,AT _ _ _ _⟩
 have t:DRow f c g (R++[(aQ name kind code text,Z Y 0 0,Z Y 0 0)]):=DRow.more h.row h1.row h.le s n i;have p:T b≠v.ownBlock:=λe=>by have:=(h.row.i.lt b e.symm).1;have:=h.lt;omega
 have j:RdB f b v:=(i.block b h1.H.lt p).trans h1.H;have hz:w.heap.size<=f.heap.size:=p9 l.size i.size;refine⟨⟨j.set g,t.set (e:=0) (.inl h.lt) g,h.lt,by have:=h.le;simp;omega⟩,?_,j⟩;refine((KR.u l ly).trans (KR.of_grown i λk q=>?_)).trans (KR.H f 0 g);exact⟨(h.row.i.lt k q).1,.inr (.inr (bq h1.row.i k q))⟩
theorem RSt.moreA (h:RSt w b j (Z (T (Q g 0 Y)) (R.length+1) c) (R++[r]))(G:Below w.heap.size w p)
  (z:f.ownsRow j 90 3 m (r.1.f+1) (bH r.1.G r.1.f++gQ x)) (l:(p.alloc (N o ty)).grownBy f r.2.1.ownBlock) (C:m.ownBlock=r.2.1.ownBlock∨m.ownBlock=T (p.alloc (N o ty)).heap.size) :
  RSt (f.setCell (Q g (R.length*6+4) Y) m) b j (Z (T (Q g 0 Y)) (R.length+1) c) (R++[(r.1.doA x,m,r.2.2)])/\KR b j w (f.setCell (Q g (R.length*6+4) Y) m)/\f.cell? (Q g (R.length*6+4) Y)=T r.2.1/\f.frozen? (Q g (R.length*6+4) Y)=ZA/\g<f.heap.size:=by
 have t:=G.alloc G.size (N o ty);have h1:=h.aa t;have D:(R++[r]).length=R.length+1:=by simp
 have s:=h1.row.i;rw[D] at s;have tg:=bq s g rfl;have q:=h1.row.sub r (by simp);have n:=(s.lt g rfl)
 have ZO:=DRow.moreA (x:=x) h1.row z l C;have A:T b≠r.2.1.ownBlock:=λe=>by have:=(q.G.lt b e.symm).1;have:=h.lt;omega
 have B:T g≠r.2.1.ownBlock:=λe=>tg.ne (by decide) (bq q.G g e.symm);have H:RdB f b (Z (T (Q g 0 Y)) (R.length+1) c):=(l.block b h1.H.lt A).trans h1.H;have y:f.heap[g]?=(p.alloc (N o ty)).heap[g]?:=l.block g n.2 B;have hz:w.heap.size<=f.heap.size:=p9 t.size l.size;have ZP:b≠g:=by have:=h.lt;omega
 have cell:=cD (by rw[D];exact s) (i:=R.length) (r:=r) (by simp) 4 (by omega) (u:=r.2.1) rfl;have E:OfTy f g 62:=tg.eq y;refine⟨⟨?_,ZO,h.lt,by have:=h.le;simp;omega⟩,?_,(cq (a:=(Q g _ Y)) y).trans cell.1,(JN (a:=(Q g _ Y)) y).trans cell.2,lj n.2 l.size⟩;{exact(qh _ _ _ _ ZP).trans H};{refine((KR.u t ly).trans (KR.of_grown l λk F=>?_)).trans (KR.cell f n.1 (.inr (.inr E)) _ _);exact⟨(q.G.lt k F).1,.inl (bq q.G k F)⟩}
theorem RSt.moreL{x:Link}(h:RSt w b j (Z (T (Q g 0 Y)) (R.length+1) c) (R++[r]))(G:Below w.heap.size w p)
  (z:f.ownsRow j 93 4 m (r.1.b+1) (bo r.1.m r.1.b++cP x)) (l:(p.alloc (N o ty)).grownBy f r.2.2.ownBlock) (C:m.ownBlock=r.2.2.ownBlock∨m.ownBlock=T (p.alloc (N o ty)).heap.size) :
  RSt (f.setCell (Q g (R.length*6+5) Y) m) b j (Z (T (Q g 0 Y)) (R.length+1) c) (R++[(r.1.lkA x,r.2.1,m)])/\KR b j w (f.setCell (Q g (R.length*6+5) Y) m)/\f.cell? (Q g (R.length*6+5) Y)=T r.2.2/\f.frozen? (Q g (R.length*6+5) Y)=ZA/\g<f.heap.size:=by
 have t:=G.alloc G.size (N o ty);have h1:=h.aa t;have D:(R++[r]).length=R.length+1:=by simp
 have s:=h1.row.i;rw[D] at s;have tg:=bq s g rfl;have q:=h1.row.sub r (by simp);have n:=(s.lt g rfl)
 have ZO:=DRow.moreL (x:=x) h1.row z l C;have A:T b≠r.2.2.ownBlock:=λe=>by have:=(q.V.lt b e.symm).1;have:=h.lt;omega
 have B:T g≠r.2.2.ownBlock:=λe=>tg.ne (by decide) (bq q.V g e.symm);have H:RdB f b (Z (T (Q g 0 Y)) (R.length+1) c):=(l.block b h1.H.lt A).trans h1.H;have y:f.heap[g]?=(p.alloc (N o ty)).heap[g]?:=l.block g n.2 B;have hz:w.heap.size<=f.heap.size:=p9 t.size l.size;have ZP:b≠g:=by have:=h.lt;omega
 have cell:=cD (by rw[D];exact s) (i:=R.length) (r:=r) (by simp) 5 (by omega) (u:=r.2.2) rfl;have E:OfTy f g 62:=tg.eq y;refine⟨⟨?_,ZO,h.lt,by have:=h.le;simp;omega⟩,?_,(cq (a:=(Q g _ Y)) y).trans cell.1,(JN (a:=(Q g _ Y)) y).trans cell.2,lj n.2 l.size⟩;{exact(qh _ _ _ _ ZP).trans H};{refine((KR.u t ly).trans (KR.of_grown l λk F=>?_)).trans (KR.cell f n.1 (.inr (.inr E)) _ _);exact⟨(q.V.lt k F).1,.inr (.inl (bq q.V k F))⟩}
def AcB (w:M)(b:Nat)(v:ZC):Prop:=w.heap[b]?=T (N #[v] 25 (0,0))
theorem AcB.lt{v:ZC}(h:AcB w b v):b<w.heap.size:=(gM.1 h).1
theorem AcB.c0{v:ZC}(h:AcB w b v):w.cell? (Q b 0 Y)=T v:=by rw[IA h];rfl
theorem AcB.fz{v:ZC}(h:AcB w b v):w.frozen? (Q b 0 Y)=ZA:=MW h 0
theorem AcB.set{v:ZC}(h:AcB w b v)(c:ZC):AcB (w.setCell (Q b 0 Y) c) b c:=by unfold AcB at *;simp[World.setCell,CV,h]
structure ASt (w:M)(b base:Nat)(v:ZC)(R:List DR):Prop where
 H:AcB w b v
 row:DRow w base v R
 lt:b<base
 le:base<=w.heap.size
theorem ASt.aa{v:ZC}(h:ASt w b c v R)(hb:Below w.heap.size w f):ASt f b c v R :=
 ⟨(hb.block b h.H.lt).trans h.H,h.row.aa hb ly,h.lt,p9 h.le hb.size⟩
theorem ASt.ad{o:M}{v g:ZC}{name text:ByteArray}{kind code:Int}{m:Array ZC}(h:ASt w b c v R)(r:Below w.heap.size w o)
  (n:f.ownsRow c 62 6 g (R.length+1) (R.flatMap ddV++[U name,J I kind,J I code,U text,Z Y 0 0,Z Y 0 0])) (i:(o.alloc (N m ty)).grownBy f v.ownBlock) :
  ASt (f.setCell (Q b 0 Y) g) b c g (R++[(aQ name kind code text,Z Y 0 0,Z Y 0 0)])/\KR b c w (f.setCell (Q b 0 Y) g)/\AcB f b v:=by
 have l:=r.alloc r.size (N m ty);have h1:=h.aa l;have s:DSub (o.alloc (N m ty)) w.heap.size (aQ name kind code text,Z Y 0 0,Z Y 0 0):=⟨AT _ _ _ _,AT _ _ _ _⟩
 have t:DRow f c g (R++[(aQ name kind code text,Z Y 0 0,Z Y 0 0)]):=DRow.more h.row h1.row h.le s n i;have p:T b≠v.ownBlock:=λe=>by have:=(h.row.i.lt b e.symm).1;have:=h.lt;omega
 have j:AcB f b v:=(i.block b h1.H.lt p).trans h1.H;have hz:w.heap.size<=f.heap.size:=p9 l.size i.size;refine⟨⟨j.set g,t.set (e:=0) (.inl h.lt) g,h.lt,by have:=h.le;simp;omega⟩,?_,j⟩;refine((KR.u l ly).trans (KR.of_grown i λk q=>?_)).trans (KR.H f 0 g);exact⟨(h.row.i.lt k q).1,.inr (.inr (bq h1.row.i k q))⟩
theorem ASt.moreA (h:ASt w b j (Z (T (Q g 0 Y)) (R.length+1) c) (R++[r]))(H:Below w.heap.size w p)
  (A:f.ownsRow j 90 3 m (r.1.f+1) (bH r.1.G r.1.f++gQ x)) (l:(p.alloc (N o ty)).grownBy f r.2.1.ownBlock) (D:m.ownBlock=r.2.1.ownBlock∨m.ownBlock=T (p.alloc (N o ty)).heap.size) :
  ASt (f.setCell (Q g (R.length*6+4) Y) m) b j (Z (T (Q g 0 Y)) (R.length+1) c) (R++[(r.1.doA x,m,r.2.2)])/\KR b j w (f.setCell (Q g (R.length*6+4) Y) m)/\f.cell? (Q g (R.length*6+4) Y)=T r.2.1/\f.frozen? (Q g (R.length*6+4) Y)=ZA/\g<f.heap.size/\AcB f b (Z (T (Q g 0 Y)) (R.length+1) c):=by
 have y:=H.alloc H.size (N o ty);have h1:=h.aa y;have E:(R++[r]).length=R.length+1:=by simp
 have s:=h1.row.i;rw[E] at s;have tg:=bq s g rfl;have q:=h1.row.sub r (by simp);have n:=(s.lt g rfl)
 have ZO:=DRow.moreA (x:=x) h1.row A l D;have B:T b≠r.2.1.ownBlock:=λe=>by have:=(q.G.lt b e.symm).1;have:=h.lt;omega
 have C:T g≠r.2.1.ownBlock:=λe=>tg.ne (by decide) (bq q.G g e.symm);have t:AcB f b (Z (T (Q g 0 Y)) (R.length+1) c):=(l.block b h1.H.lt B).trans h1.H;have z:f.heap[g]?=(p.alloc (N o ty)).heap[g]?:=l.block g n.2 C;have hz:w.heap.size<=f.heap.size:=p9 y.size l.size;have ZP:b≠g:=by have:=h.lt;omega
 have cell:=cD (by rw[E];exact s) (i:=R.length) (r:=r) (by simp) 4 (by omega) (u:=r.2.1) rfl;have F:OfTy f g 62:=tg.eq z;refine⟨⟨?_,ZO,h.lt,by have:=h.le;simp;omega⟩,?_,(cq (a:=(Q g _ Y)) z).trans cell.1,(JN (a:=(Q g _ Y)) z).trans cell.2,lj n.2 l.size,t⟩;{exact(qh _ _ _ _ ZP).trans t};{refine((KR.u y ly).trans (KR.of_grown l λk G=>?_)).trans (KR.cell f n.1 (.inr (.inr F)) _ _);exact⟨(q.G.lt k G).1,.inl (bq q.G k G)⟩}
theorem ASt.moreL{x:Link}(h:ASt w b j (Z (T (Q g 0 Y)) (R.length+1) c) (R++[r]))(H:Below w.heap.size w p)
  (A:f.ownsRow j 93 4 m (r.1.b+1) (bo r.1.m r.1.b++cP x)) (l:(p.alloc (N o ty)).grownBy f r.2.2.ownBlock) (D:m.ownBlock=r.2.2.ownBlock∨m.ownBlock=T (p.alloc (N o ty)).heap.size) :
  ASt (f.setCell (Q g (R.length*6+5) Y) m) b j (Z (T (Q g 0 Y)) (R.length+1) c) (R++[(r.1.lkA x,r.2.1,m)])/\KR b j w (f.setCell (Q g (R.length*6+5) Y) m)/\f.cell? (Q g (R.length*6+5) Y)=T r.2.2/\f.frozen? (Q g (R.length*6+5) Y)=ZA/\g<f.heap.size/\AcB f b (Z (T (Q g 0 Y)) (R.length+1) c):=by
 have y:=H.alloc H.size (N o ty);have h1:=h.aa y;have E:(R++[r]).length=R.length+1:=by simp
 have s:=h1.row.i;rw[E] at s;have tg:=bq s g rfl;have q:=h1.row.sub r (by simp);have n:=(s.lt g rfl)
 have ZO:=DRow.moreL (x:=x) h1.row A l D;have B:T b≠r.2.2.ownBlock:=λe=>by have:=(q.V.lt b e.symm).1;have:=h.lt;omega
 have C:T g≠r.2.2.ownBlock:=λe=>tg.ne (by decide) (bq q.V g e.symm);have t:AcB f b (Z (T (Q g 0 Y)) (R.length+1) c):=(l.block b h1.H.lt B).trans h1.H;have z:f.heap[g]?=(p.alloc (N o ty)).heap[g]?:=l.block g n.2 C;have hz:w.heap.size<=f.heap.size:=p9 y.size l.size;have ZP:b≠g:=by have:=h.lt;omega
 have cell:=cD (by rw[E];exact s) (i:=R.length) (r:=r) (by simp) 5 (by omega) (u:=r.2.2) rfl;have F:OfTy f g 62:=tg.eq z;refine⟨⟨?_,ZO,h.lt,by have:=h.le;simp;omega⟩,?_,(cq (a:=(Q g _ Y)) z).trans cell.1,(JN (a:=(Q g _ Y)) z).trans cell.2,lj n.2 l.size,t⟩;{exact(qh _ _ _ _ ZP).trans t};{refine((KR.u y ly).trans (KR.of_grown l λk G=>?_)).trans (KR.cell f n.1 (.inr (.inr F)) _ _);exact⟨(q.V.lt k G).1,.inr (.inl (bq q.V k G))⟩}
