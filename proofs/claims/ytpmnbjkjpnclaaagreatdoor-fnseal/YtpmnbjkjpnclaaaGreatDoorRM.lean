import Derived.Test.YtpmnbjkjpnclaaaGreatDoorRB
import Derived.Test.YtpmnbjkjpnclaaaGreatDoorRH
set_option linter.unusedSimpArgs false
open Go renaming Addr.mk->Q,Value.slice->Z,Value.string->Y,Value.int->J,Obj.cells->N,IntKind.i64->I,World->M,Value->ZC,TypeId->ZH
open Option renaming none->U,some->T
open Bool renaming false->ZA
namespace Go.Proofs.YtpmnbjkjpnclaaaGreatDoor.Vp
open RowKit Ca
variable {w f s:M}{b c g j n size:Nat}{R:List DR}{r:DR}{ty e:ZH}{l:ZC}{q o:Array ZC}{x:Ins}
theorem sC{cap:Nat}{i:List ZC}(h:w.ownsRow b e size (Z (T (Q g 0 U)) n cap) n i)(u:ZC):(w.setCell (Q g j U) u).ownsRow b e size (Z (T (Q g 0 U)) n cap) n (i.set j u):=by
 refine⟨by rw[KK];exact h.1,?_⟩;rcases h.2 with ⟨c,h0⟩|⟨g',cap',f,c,hb,l,h1,h2,h3,h4⟩
 {simp at c};{simp only[N1,OJ,TP] at c;obtain⟨⟨rfl,-⟩,-,rfl⟩:=c;refine .inr ⟨g,cap,f.setIfInBounds j u,rfl,hb,?_,h1,h2,by simpa using h3,?_⟩;{simp[World.setCell,CP,l]};{rw[QR,VT,h4]}}
theorem eS{i:ZH}{v:ZC}{f:List ZC}(h:w.ownsRow c e size v n f)(hb:OfTy w b i)(g:i≠e)(j:Nat)(u:ZC):(w.setCell (Q b j U) u).ownsRow c e size v n f :=
 bD h λk _ l=>qh _ _ _ _ λq=>hb.ne (WJ g) ((show k=b from q) ▸ l)
theorem Ep (d:Deed)(x:Ins):bJ (d.doA x).H (d.doA x).f=bJ d.H d.f++gT x:=by
 show((List.range (d.f+1)).map _).flatMap gT=_;rw[OQ,DN,BO];congr 1;{unfold bJ;congr 1;refine WD λi hi=>?_;have:=PE.1 hi;show(if i=d.f then x else d.H i)=d.H i;rw[gM (by omega)]};{simp[Deed.doA]}
theorem Er (d:Deed)(x:Link):bq (d.lkA x).D (d.lkA x).b=bq d.D d.b++cQ x:=by
 show((List.range (d.b+1)).map _).flatMap cQ=_;rw[OQ,DN,BO];congr 1;{unfold bq;congr 1;refine WD λi hi=>?_;have:=PE.1 hi;show(if i=d.b then x else d.D i)=d.D i;rw[gM (by omega)]};{simp[Deed.lkA]}
theorem xY (R:List DR)(r b:DR)(j:Nat)(u:ZC)(hj:j<6)(e:ddV b=(ddV r).set j u):(R++[b]).flatMap ddV=((R++[r]).flatMap ddV).set (R.length*6+j) u:=by have c:(R.flatMap ddV).length=R.length*6:=eW ddV 6 (λ_=>rfl) R;rw[BO,BO,SD _ _ (by omega),c,Nat.add_sub_cancel_left];simp[e]
theorem sD{c:DR}(h:(R++[r]).Pairwise λa b=>Apt a.2.1 b.2.1/\Apt a.2.2 b.2.2)(k:∀a∈R,Apt a.2.1 r.2.1/\Apt a.2.2 r.2.2->Apt a.2.1 c.2.1/\Apt a.2.2 c.2.2):(R++[c]).Pairwise λa b=>Apt a.2.1 b.2.1/\Apt a.2.2 b.2.2:=by rw[PF] at h ⊢;refine⟨h.1,U2 _ _,λa f b hb=>?_⟩;rw[nD.1 hb];exact k a f (h.2.2 a f r (by simp))
theorem xZ{a v b:ZC}{j:List ZC}(h:w.ownsRow c e size a n j)(i:Apt a v)(g:b.ownBlock=v.ownBlock∨b.ownBlock=T w.heap.size):Apt a b:=by
 rcases i with f|f;{exact .inl f};{rcases g with h1|h1;{exact .inr (by rw[h1];exact f)};{refine .inr λe=>?_;have:=(h.lt w.heap.size (e.trans h1)).2;omega}}
theorem DRow.moreA{j:M}{f:Nat}{b:ZC}(h:DRow w f (Z (T (Q g 0 U)) (R.length+1) c) (R++[r]))(y:j.ownsRow f 151 3 b (r.1.f+1) (bJ r.1.H r.1.f++gT x))(F:w.grownBy j r.2.1.ownBlock)(C:b.ownBlock=r.2.1.ownBlock∨b.ownBlock=T w.heap.size):DRow (j.setCell (Q g (R.length*6+4) U) b) f (Z (T (Q g 0 U)) (R.length+1) c) (R++[(r.1.doA x,b,r.2.2)]):=by
 have G:(R++[r]).length=R.length+1:=by simp
 have u:=h.i;rw[G] at u;have tg:OfTy w g 46:=bu u g rfl;have B:=h.sub r (by simp);have keep:∀k,k<w.heap.size->¬ r.2.1.ownBlock=T k->j.heap[k]?=w.heap[k]?:=λk l hn=>F.block k l (λe=>hn e.symm);have o:∀k e,OfTy w k e->e≠151->j.heap[k]?=w.heap[k]?:=λk e i D=>keep k (by obtain⟨c',z,l⟩:=i;exact(eT.1 l).1) λq=>i.ne (WJ D) (bu B.H k q);have p:OfTy j g 46:=tg.eq (o g _ tg (by decide));have E:j.ownsRow f 46 6 (Z (T (Q g 0 U)) (R.length+1) c) (R.length+1) ((R++[r]).flatMap ddV):=bD u λk _ i=>o k _ i (by decide);refine⟨?_,λa m=>?_,sD h.up λa m s=>⟨xZ (h.sub a (by simp[m])).H s.1 C,s.2⟩⟩;{rw[show(R++[(r.1.doA x,b,r.2.2)]).length=R.length+1 by simp,xY R r (r.1.doA x,b,r.2.2) 4 b (by omega) rfl];exact sC E b};{rcases p8.1 m with m|m;{have A:=h.sub a (by simp[m]);have s:=(PF.1 h.up).2.2 a m r (by simp);refine⟨eS (bD A.H λk l i=>keep k (A.H.lt k l).2 λq=>?_) p (by decide) _ _,eS (bD A.V λk _ i=>o k _ i (by decide)) p (by decide) _ _⟩;rcases s.1 with t|t;{rw[t] at l;cases l};{exact t (l.trans q.symm)}};{rw[nD.1 m];refine⟨eS (v:=b) (n:=r.1.f+1) ?_ p (by decide) _ _,eS (v:=r.2.2) (n:=r.1.b) (bD B.V λk _ i=>o k _ i (by decide)) p (by decide) _ _⟩;show j.ownsRow f 151 3 b (r.1.f+1) (bJ (r.1.doA x).H (r.1.doA x).f);rw[Ep];exact y}}
theorem DRow.moreL{j:M}{f:Nat}{x:Link}{b:ZC}(h:DRow w f (Z (T (Q g 0 U)) (R.length+1) c) (R++[r]))(y:j.ownsRow f 91 4 b (r.1.b+1) (bq r.1.D r.1.b++cQ x))(F:w.grownBy j r.2.2.ownBlock)(C:b.ownBlock=r.2.2.ownBlock∨b.ownBlock=T w.heap.size):DRow (j.setCell (Q g (R.length*6+5) U) b) f (Z (T (Q g 0 U)) (R.length+1) c) (R++[(r.1.lkA x,r.2.1,b)]):=by
 have G:(R++[r]).length=R.length+1:=by simp
 have u:=h.i;rw[G] at u;have tg:OfTy w g 46:=bu u g rfl;have B:=h.sub r (by simp);have keep:∀k,k<w.heap.size->¬ r.2.2.ownBlock=T k->j.heap[k]?=w.heap[k]?:=λk l hn=>F.block k l (λe=>hn e.symm);have o:∀k e,OfTy w k e->e≠91->j.heap[k]?=w.heap[k]?:=λk e i D=>keep k (by obtain⟨c',z,l⟩:=i;exact(eT.1 l).1) λq=>i.ne (WJ D) (bu B.V k q);have p:OfTy j g 46:=tg.eq (o g _ tg (by decide));have E:j.ownsRow f 46 6 (Z (T (Q g 0 U)) (R.length+1) c) (R.length+1) ((R++[r]).flatMap ddV):=bD u λk _ i=>o k _ i (by decide);refine⟨?_,λa m=>?_,sD h.up λa m s=>⟨s.1,xZ (h.sub a (by simp[m])).V s.2 C⟩⟩;{rw[show(R++[(r.1.lkA x,r.2.1,b)]).length=R.length+1 by simp,xY R r (r.1.lkA x,r.2.1,b) 5 b (by omega) rfl];exact sC E b};{rcases p8.1 m with m|m;{have A:=h.sub a (by simp[m]);have s:=(PF.1 h.up).2.2 a m r (by simp);refine⟨eS (bD A.H λk _ i=>o k _ i (by decide)) p (by decide) _ _,eS (bD A.V λk l i=>keep k (A.V.lt k l).2 λq=>?_) p (by decide) _ _⟩;rcases s.2 with t|t;{rw[t] at l;cases l};{exact t (l.trans q.symm)}};{rw[nD.1 m];refine⟨eS (v:=r.2.1) (n:=r.1.f) (bD B.H λk _ i=>o k _ i (by decide)) p (by decide) _ _,eS (v:=b) (n:=r.1.b+1) ?_ p (by decide) _ _⟩;show j.ownsRow f 91 4 b (r.1.b+1) (bq (r.1.lkA x).D (r.1.lkA x).b);rw[Er];exact y}}
def Of3 (w:M)(k:Nat):Prop:=OfTy w k 151∨OfTy w k 91∨OfTy w k 46
theorem Of3.of_eq{b:M}{k:Nat}(h:Of3 b k)(hb:b.heap[k]?=w.heap[k]?):Of3 w k:=h.imp (λh=>h.of_eq hb) (λh=>h.imp (λh=>h.of_eq hb) (λh=>h.of_eq hb))
structure KR (b base:Nat)(w w':M):Prop where
 os:w'.os=w.os
 tape:w'.tape=w.tape
 output:w'.output=w.output
 size:w.heap.size<=w'.heap.size
 keep:∀k,k<w.heap.size->k≠b->(k<base∨¬ Of3 w k)->w'.heap[k]?=w.heap[k]?
theorem KR.refl (b c:Nat)(w:M):KR b c w w:=⟨rfl,rfl,rfl,n6 _,λ_ _ _ _=>rfl⟩
theorem KR.trans{u v:M}(h:KR b c u v)(k:KR b c v w):KR b c u w :=
 ⟨k.os.trans h.os,k.tape.trans h.tape,k.output.trans h.output,p7 h.size k.size,λi hi hb f=>by
  have e:=h.keep i hi hb f
  exact(k.keep i (lj hi h.size) hb (f.imp id λhn g=>hn (g.of_eq e))).trans e⟩
theorem KR.u{B:Nat}(h:Below B w f)(hB:w.heap.size<=B):KR b c w f:=⟨h.os,h.tape,h.output,h.size,λk hk _ _=>h.block k (by omega)⟩
theorem KR.of_grown{g:M}{row:Option Nat}(h:w.grownBy g row)(i:∀k,row=T k->c<=k/\Of3 w k):KR b c w g :=
 ⟨h.os,h.tape,h.output,h.size,λk j _ f=>h.block k j (λe=>by
  obtain⟨h1,h2⟩:=i k e.symm;rcases f with f|f
  ·omega
  ·exact f h2)⟩
theorem KR.G (w:M)(j:Nat)(v:ZC):KR b c w (w.setCell (Q b j U) v) :=
 ⟨rfl,rfl,rfl,by simp[World.setCell],λk _ hb _=>qh _ _ _ _ hb⟩
theorem KR.cell{base:Nat}(w:M)(hg:base<=g)(f:Of3 w g)(j:Nat)(v:ZC):KR b base w (w.setCell (Q g j U) v) :=
 ⟨rfl,rfl,rfl,by simp[World.setCell],λk _ _ c=>qh _ _ _ _ (λe=>by
  have e:k=g:=e;subst e;rcases c with c|c
  ·omega
  ·exact c f)⟩
theorem KR.aa (h:KR b c w f)(hb:n<=b)(hn:n<=c)(hz:n<=w.heap.size):Below n w f:=⟨h.os,h.tape,h.output,h.size,λk hk=>h.keep k (by omega) (by omega) (.inl (by omega))⟩
def RdB (w:M)(b:Nat)(v:ZC):Prop:=w.heap[b]?=T (N #[v] 268 (0,0))
theorem RdB.lt{v:ZC}(h:RdB w b v):b<w.heap.size:=(eT.1 h).1
theorem RdB.c0{v:ZC}(h:RdB w b v):w.cell? (Q b 0 U)=T v:=by rw[HU h];rfl
theorem RdB.fz{v:ZC}(h:RdB w b v):w.frozen? (Q b 0 U)=ZA:=OP h 0
theorem RdB.set{v:ZC}(h:RdB w b v)(c:ZC):RdB (w.setCell (Q b 0 U) c) b c:=by unfold RdB at *;simp[World.setCell,CP,h]
structure RSt (w:M)(b base:Nat)(v:ZC)(R:List DR):Prop where
 G:RdB w b v
 row:DRow w base v R
 lt:b<base
 le:base<=w.heap.size
theorem RSt.aa{v:ZC}(h:RSt w b c v R)(hb:Below w.heap.size w f):RSt f b c v R :=
 ⟨(hb.block b h.G.lt).trans h.G,h.row.aa hb ly,h.lt,p7 h.le hb.size⟩
theorem dO (w:M)(a b c d e f:ZC)(t:ZH):∀j u,[a,b,c,d,e,f][j]?=T u->(w.alloc (N #[a,b,c,d,e,f] t)).cell? (((Q w.heap.size 0 U):Addr).add j)=T u:=by intro j u g;rw[addr_add,FM];exact jj w _ t w.heap.size j u rfl (by simpa using g)
theorem RSt.am{n:M}{v g:ZC}{name text:ByteArray}{kind code:Int}(h:RSt w b c v R)(r:Below w.heap.size w n)
  (m:f.ownsRow c 46 6 g (R.length+1) (R.flatMap ddV++[Y name,J I kind,J I code,Y text,Z U 0 0,Z U 0 0])) (i:(n.alloc (N o ty)).grownBy f v.ownBlock) :
  RSt (f.setCell (Q b 0 U) g) b c g (R++[(aV name kind code text,Z U 0 0,Z U 0 0)])/\KR b c w (f.setCell (Q b 0 U) g)/\RdB f b v:=by
 have l:=r.alloc r.size (N o ty);have h1:=h.aa l;have s:DSub (n.alloc (N o ty)) w.heap.size (aV name kind code text,Z U 0 0,Z U 0 0):=⟨A9 _ _ _ _,A9 _ _ _ _⟩
 have t:DRow f c g (R++[(aV name kind code text,Z U 0 0,Z U 0 0)]):=DRow.more h.row h1.row h.le s m i;have p:T b≠v.ownBlock:=λe=>by have:=(h.row.i.lt b e.symm).1;have:=h.lt;omega
 have j:RdB f b v:=(i.block b h1.G.lt p).trans h1.G;have hz:w.heap.size<=f.heap.size:=p7 l.size i.size;refine⟨⟨j.set g,t.set (e:=0) (.inl h.lt) g,h.lt,by have:=h.le;simp;omega⟩,?_,j⟩;refine((KR.u l ly).trans (KR.of_grown i λk q=>?_)).trans (KR.G f 0 g);exact⟨(h.row.i.lt k q).1,.inr (.inr (bu h1.row.i k q))⟩
theorem RSt.moreA (h:RSt w b j (Z (T (Q g 0 U)) (R.length+1) c) (R++[r]))(ZP:Below w.heap.size w s)
  (z:f.ownsRow j 151 3 l (r.1.f+1) (bJ r.1.H r.1.f++gT x)) (m:(s.alloc (N q ty)).grownBy f r.2.1.ownBlock) (A:l.ownBlock=r.2.1.ownBlock∨l.ownBlock=T (s.alloc (N q ty)).heap.size) :
  RSt (f.setCell (Q g (R.length*6+4) U) l) b j (Z (T (Q g 0 U)) (R.length+1) c) (R++[(r.1.doA x,l,r.2.2)])/\KR b j w (f.setCell (Q g (R.length*6+4) U) l)/\f.cell? (Q g (R.length*6+4) U)=T r.2.1/\f.frozen? (Q g (R.length*6+4) U)=ZA/\g<f.heap.size:=by
 have t:=ZP.alloc ZP.size (N q ty);have h1:=h.aa t;have D:(R++[r]).length=R.length+1:=by simp
 have p:=h1.row.i;rw[D] at p;have tg:=bu p g rfl;have o:=h1.row.sub r (by simp);have n:=(p.lt g rfl)
 have ZN:=DRow.moreA (x:=x) h1.row z m A;have B:T b≠r.2.1.ownBlock:=λe=>by have:=(o.H.lt b e.symm).1;have:=h.lt;omega
 have C:T g≠r.2.1.ownBlock:=λe=>tg.ne (by decide) (bu o.H g e.symm);have E:RdB f b (Z (T (Q g 0 U)) (R.length+1) c):=(m.block b h1.G.lt B).trans h1.G;have y:f.heap[g]?=(s.alloc (N q ty)).heap[g]?:=m.block g n.2 C;have hz:w.heap.size<=f.heap.size:=p7 t.size m.size;have G:b≠g:=by have:=h.lt;omega
 have cell:=cR (by rw[D];exact p) (i:=R.length) (r:=r) (by simp) 4 (by omega) (u:=r.2.1) rfl;have H:OfTy f g 46:=tg.eq y;refine⟨⟨?_,ZN,h.lt,by have:=h.le;simp;omega⟩,?_,(cq (a:=(Q g _ U)) y).trans cell.1,(JN (a:=(Q g _ U)) y).trans cell.2,lj n.2 m.size⟩;{exact(qh _ _ _ _ G).trans E};{refine((KR.u t ly).trans (KR.of_grown m λk F=>?_)).trans (KR.cell f n.1 (.inr (.inr H)) _ _);exact⟨(o.H.lt k F).1,.inl (bu o.H k F)⟩}
theorem RSt.moreL{x:Link}(h:RSt w b j (Z (T (Q g 0 U)) (R.length+1) c) (R++[r]))(ZP:Below w.heap.size w s)
  (z:f.ownsRow j 91 4 l (r.1.b+1) (bq r.1.D r.1.b++cQ x)) (m:(s.alloc (N q ty)).grownBy f r.2.2.ownBlock) (A:l.ownBlock=r.2.2.ownBlock∨l.ownBlock=T (s.alloc (N q ty)).heap.size) :
  RSt (f.setCell (Q g (R.length*6+5) U) l) b j (Z (T (Q g 0 U)) (R.length+1) c) (R++[(r.1.lkA x,r.2.1,l)])/\KR b j w (f.setCell (Q g (R.length*6+5) U) l)/\f.cell? (Q g (R.length*6+5) U)=T r.2.2/\f.frozen? (Q g (R.length*6+5) U)=ZA/\g<f.heap.size:=by
 have t:=ZP.alloc ZP.size (N q ty);have h1:=h.aa t;have D:(R++[r]).length=R.length+1:=by simp
 have p:=h1.row.i;rw[D] at p;have tg:=bu p g rfl;have o:=h1.row.sub r (by simp);have n:=(p.lt g rfl)
 have ZN:=DRow.moreL (x:=x) h1.row z m A;have B:T b≠r.2.2.ownBlock:=λe=>by have:=(o.V.lt b e.symm).1;have:=h.lt;omega
 have C:T g≠r.2.2.ownBlock:=λe=>tg.ne (by decide) (bu o.V g e.symm);have E:RdB f b (Z (T (Q g 0 U)) (R.length+1) c):=(m.block b h1.G.lt B).trans h1.G;have y:f.heap[g]?=(s.alloc (N q ty)).heap[g]?:=m.block g n.2 C;have hz:w.heap.size<=f.heap.size:=p7 t.size m.size;have G:b≠g:=by have:=h.lt;omega
 have cell:=cR (by rw[D];exact p) (i:=R.length) (r:=r) (by simp) 5 (by omega) (u:=r.2.2) rfl;have H:OfTy f g 46:=tg.eq y;refine⟨⟨?_,ZN,h.lt,by have:=h.le;simp;omega⟩,?_,(cq (a:=(Q g _ U)) y).trans cell.1,(JN (a:=(Q g _ U)) y).trans cell.2,lj n.2 m.size⟩;{exact(qh _ _ _ _ G).trans E};{refine((KR.u t ly).trans (KR.of_grown m λk F=>?_)).trans (KR.cell f n.1 (.inr (.inr H)) _ _);exact⟨(o.V.lt k F).1,.inr (.inl (bu o.V k F))⟩}
def AcB (w:M)(b:Nat)(v:ZC):Prop:=w.heap[b]?=T (N #[v] 37 (0,0))
theorem AcB.lt{v:ZC}(h:AcB w b v):b<w.heap.size:=(eT.1 h).1
theorem AcB.c0{v:ZC}(h:AcB w b v):w.cell? (Q b 0 U)=T v:=by rw[HU h];rfl
theorem AcB.fz{v:ZC}(h:AcB w b v):w.frozen? (Q b 0 U)=ZA:=OP h 0
theorem AcB.set{v:ZC}(h:AcB w b v)(c:ZC):AcB (w.setCell (Q b 0 U) c) b c:=by unfold AcB at *;simp[World.setCell,CP,h]
structure ASt (w:M)(b base:Nat)(v:ZC)(R:List DR):Prop where
 G:AcB w b v
 row:DRow w base v R
 lt:b<base
 le:base<=w.heap.size
theorem ASt.aa{v:ZC}(h:ASt w b c v R)(hb:Below w.heap.size w f):ASt f b c v R :=
 ⟨(hb.block b h.G.lt).trans h.G,h.row.aa hb ly,h.lt,p7 h.le hb.size⟩
theorem ASt.am{n:M}{v g:ZC}{name text:ByteArray}{kind code:Int}(h:ASt w b c v R)(r:Below w.heap.size w n)
  (m:f.ownsRow c 46 6 g (R.length+1) (R.flatMap ddV++[Y name,J I kind,J I code,Y text,Z U 0 0,Z U 0 0])) (i:(n.alloc (N o ty)).grownBy f v.ownBlock) :
  ASt (f.setCell (Q b 0 U) g) b c g (R++[(aV name kind code text,Z U 0 0,Z U 0 0)])/\KR b c w (f.setCell (Q b 0 U) g)/\AcB f b v:=by
 have l:=r.alloc r.size (N o ty);have h1:=h.aa l;have s:DSub (n.alloc (N o ty)) w.heap.size (aV name kind code text,Z U 0 0,Z U 0 0):=⟨A9 _ _ _ _,A9 _ _ _ _⟩
 have t:DRow f c g (R++[(aV name kind code text,Z U 0 0,Z U 0 0)]):=DRow.more h.row h1.row h.le s m i;have p:T b≠v.ownBlock:=λe=>by have:=(h.row.i.lt b e.symm).1;have:=h.lt;omega
 have j:AcB f b v:=(i.block b h1.G.lt p).trans h1.G;have hz:w.heap.size<=f.heap.size:=p7 l.size i.size;refine⟨⟨j.set g,t.set (e:=0) (.inl h.lt) g,h.lt,by have:=h.le;simp;omega⟩,?_,j⟩;refine((KR.u l ly).trans (KR.of_grown i λk q=>?_)).trans (KR.G f 0 g);exact⟨(h.row.i.lt k q).1,.inr (.inr (bu h1.row.i k q))⟩
theorem ASt.moreA (h:ASt w b j (Z (T (Q g 0 U)) (R.length+1) c) (R++[r]))(ZP:Below w.heap.size w s)
  (A:f.ownsRow j 151 3 l (r.1.f+1) (bJ r.1.H r.1.f++gT x)) (m:(s.alloc (N q ty)).grownBy f r.2.1.ownBlock) (B:l.ownBlock=r.2.1.ownBlock∨l.ownBlock=T (s.alloc (N q ty)).heap.size) :
  ASt (f.setCell (Q g (R.length*6+4) U) l) b j (Z (T (Q g 0 U)) (R.length+1) c) (R++[(r.1.doA x,l,r.2.2)])/\KR b j w (f.setCell (Q g (R.length*6+4) U) l)/\f.cell? (Q g (R.length*6+4) U)=T r.2.1/\f.frozen? (Q g (R.length*6+4) U)=ZA/\g<f.heap.size/\AcB f b (Z (T (Q g 0 U)) (R.length+1) c):=by
 have y:=ZP.alloc ZP.size (N q ty);have h1:=h.aa y;have E:(R++[r]).length=R.length+1:=by simp
 have p:=h1.row.i;rw[E] at p;have tg:=bu p g rfl;have o:=h1.row.sub r (by simp);have n:=(p.lt g rfl)
 have ZN:=DRow.moreA (x:=x) h1.row A m B;have C:T b≠r.2.1.ownBlock:=λe=>by have:=(o.H.lt b e.symm).1;have:=h.lt;omega
 have D:T g≠r.2.1.ownBlock:=λe=>tg.ne (by decide) (bu o.H g e.symm);have t:AcB f b (Z (T (Q g 0 U)) (R.length+1) c):=(m.block b h1.G.lt C).trans h1.G;have z:f.heap[g]?=(s.alloc (N q ty)).heap[g]?:=m.block g n.2 D;have hz:w.heap.size<=f.heap.size:=p7 y.size m.size;have G:b≠g:=by have:=h.lt;omega
 have cell:=cR (by rw[E];exact p) (i:=R.length) (r:=r) (by simp) 4 (by omega) (u:=r.2.1) rfl;have H:OfTy f g 46:=tg.eq z;refine⟨⟨?_,ZN,h.lt,by have:=h.le;simp;omega⟩,?_,(cq (a:=(Q g _ U)) z).trans cell.1,(JN (a:=(Q g _ U)) z).trans cell.2,lj n.2 m.size,t⟩;{exact(qh _ _ _ _ G).trans t};{refine((KR.u y ly).trans (KR.of_grown m λk F=>?_)).trans (KR.cell f n.1 (.inr (.inr H)) _ _);exact⟨(o.H.lt k F).1,.inl (bu o.H k F)⟩}
theorem ASt.moreL{x:Link}(h:ASt w b j (Z (T (Q g 0 U)) (R.length+1) c) (R++[r]))(ZP:Below w.heap.size w s)
  (A:f.ownsRow j 91 4 l (r.1.b+1) (bq r.1.D r.1.b++cQ x)) (m:(s.alloc (N q ty)).grownBy f r.2.2.ownBlock) (B:l.ownBlock=r.2.2.ownBlock∨l.ownBlock=T (s.alloc (N q ty)).heap.size) :
  ASt (f.setCell (Q g (R.length*6+5) U) l) b j (Z (T (Q g 0 U)) (R.length+1) c) (R++[(r.1.lkA x,r.2.1,l)])/\KR b j w (f.setCell (Q g (R.length*6+5) U) l)/\f.cell? (Q g (R.length*6+5) U)=T r.2.2/\f.frozen? (Q g (R.length*6+5) U)=ZA/\g<f.heap.size/\AcB f b (Z (T (Q g 0 U)) (R.length+1) c):=by
 have y:=ZP.alloc ZP.size (N q ty);have h1:=h.aa y;have E:(R++[r]).length=R.length+1:=by simp
 have p:=h1.row.i;rw[E] at p;have tg:=bu p g rfl;have o:=h1.row.sub r (by simp);have n:=(p.lt g rfl)
 have ZN:=DRow.moreL (x:=x) h1.row A m B;have C:T b≠r.2.2.ownBlock:=λe=>by have:=(o.V.lt b e.symm).1;have:=h.lt;omega
 have D:T g≠r.2.2.ownBlock:=λe=>tg.ne (by decide) (bu o.V g e.symm);have t:AcB f b (Z (T (Q g 0 U)) (R.length+1) c):=(m.block b h1.G.lt C).trans h1.G;have z:f.heap[g]?=(s.alloc (N q ty)).heap[g]?:=m.block g n.2 D;have hz:w.heap.size<=f.heap.size:=p7 y.size m.size;have G:b≠g:=by have:=h.lt;omega
 have cell:=cR (by rw[E];exact p) (i:=R.length) (r:=r) (by simp) 5 (by omega) (u:=r.2.2) rfl;have H:OfTy f g 46:=tg.eq z;refine⟨⟨?_,ZN,h.lt,by have:=h.le;simp;omega⟩,?_,(cq (a:=(Q g _ U)) z).trans cell.1,(JN (a:=(Q g _ U)) z).trans cell.2,lj n.2 m.size,t⟩;{exact(qh _ _ _ _ G).trans t};{refine((KR.u y ly).trans (KR.of_grown m λk F=>?_)).trans (KR.cell f n.1 (.inr (.inr H)) _ _);exact⟨(o.V.lt k F).1,.inr (.inl (bu o.V k F))⟩}
