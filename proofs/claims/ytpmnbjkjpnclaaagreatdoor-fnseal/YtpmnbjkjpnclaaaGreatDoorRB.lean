import Derived.Test.YtpmnbjkjpnclaaaGreatDoorSR
import Derived.Test.YtpmnbjkjpnclaaaGreatDoorSC
import Derived.Test.YtpmnbjkjpnclaaaGreatDoorSP
import Derived.Lib.SliceRun
set_option maxRecDepth 100000
set_option maxHeartbeats 2000000
open Go renaming Addr.mk->Q,Value.slice->Z,Value.string->U,Value.int->N,Value.agg->ZH,Obj.cells->J,IntKind.i64->I,World->M,Value->ZC,TypeId->ZI,Ending.returned->ZF,World.alloc->A
open Option renaming none->Y,some->T
open Bool renaming false->ZA
namespace Go.Proofs.YtpmnbjkjpnclaaaGreatDoor.Vp
open Tryz RowKit
variable {w w' W:M}{b n size g cap i c B off j base':Nat}{e:ZI}{f:List ZC}{u:ZC}
theorem addr_add (b off j:Nat):((Q b off Y):Addr).add j=(Q b (off+j) Y):=by unfold Addr.add;split<;>simp_all
theorem du {c:Type}(g:c->List ZC)(C:Nat)(b:∀x,(g x).length=C):∀(L:List c) (i j:Nat) (_:j<C) (x:c),L[i]?=T x->(L.flatMap g)[i*C+j]?=(g x)[j]?
 |[],i,j,_,x,h=>by simp at h
 |y::L,0,j,hj,x,h=>by simp at h;subst h;rw[KK,WQ,FM,OP (by rw[b];exact hj)]
 |y::L,i+1,j,hj,x,h=>by simp at h;rw[KK,IX (by rw[b,Nat.succ_mul];omega),b,show(i+1)*C+j - C=i*C+j by rw[Nat.succ_mul];omega];exact du g C b L i j hj x h
theorem eX {b:Type}(g:b->List ZC)(C:Nat)(c:∀x,(g x).length=C):∀L:List b,(L.flatMap g).length=L.length*C
 |[]=>by simp
 |y::L=>by rw[KK,cM,c,eX g C c L,eL,Nat.succ_mul];omega
def gV (x:Ins):List ZC:=[N I x.op,U x.s,N I x.n]
def bJ (f:Nat->Ins)(n:Nat):List ZC:=((List.range n).map f).flatMap gV
theorem oW (f:Nat->Ins)(n:Nat):(bJ f n).length=n*3:=by rw[bJ,eX gV 3 (λ_=>rfl)];simp
theorem nS (f:Nat->Ins)(hi:i<n)(j:Nat)(b:j<3):(bJ f n)[i*3+j]?=(gV (f i))[j]? :=
 du gV 3 (λ_=>rfl) _ i j b (f i) (by simp[hi])
theorem Ej (f:Nat->Ins)(n:Nat):∀u∈bJ f n,u.oneCell'=true:=by intro u b;simp only[bJ,P9,gV] at b;obtain⟨x,_,c⟩:=b;simp at c;rcases c with rfl|rfl|rfl<;>simp[Value.oneCell']
theorem xT{f:Nat->Ins}(h:RowIns w b off n f):∀j u,(bJ f n)[j]?=T u->w.cell? (((Q b off Y):Addr).add j)=T u:=by
 intro j u c;have hl:j<n*3:=by have:=(n8.1 c).1;rwa[oW] at this
 have e:j=j / 3*3+j % 3:=by omega
 have hi:j / 3<n:=by omega
 obtain⟨g,h1,h2⟩:=h.2 (j / 3) hi;have i:j % 3<3:=T8 _ (by omega);rw[e,nS f hi (j % 3) i] at c;have l:((Q b off Y):Addr).add j=(Q b (off+j) Y):=addr_add _ _ _;rw[l];rcases(show j % 3=0∨j % 3=1∨j % 3=2 by omega) with q|q|q;all_goals rw[q] at c;simp[gV] at c;subst c
 {rw[show off+j=off+j / 3*3 by omega];exact g};{rw[show off+j=off+j / 3*3+1 by omega];exact h1};{rw[show off+j=off+j / 3*3+2 by omega];exact h2}
theorem cP (h:w.ownsRow c e size (Z (T (Q g 0 Y)) n cap) n f)(i:f[j]?=T u):w.cell? (Q g j Y)=T u/\w.frozen? (Q g j Y)=ZA:=by
 refine⟨?_,?_⟩
 ·have:=h.cells (g:=g) rfl j u i;have m:((Q g 0 Y):Addr).add j=(Q g j Y):=by rw[addr_add];simp
  rwa[m] at this
 ·rcases h.2 with ⟨b,_⟩|⟨g',cap',cur,b,_,l,_⟩
  {simp at b};{simp at b;obtain⟨rfl,rfl⟩:=b;simp[World.frozen?,l]}
theorem dN{c:List ZC}(h:w.ownsRow b e size (Z (T (Q g 0 Y)) n cap) n c):b<=g/\g<w.heap.size:=h.lt g rfl
def TypeAt (w:M)(g:Nat)(e:ZI):Prop:=∃b,w.heap[g]?=T (J b e (0,0))
theorem lU{j:List ZC}(h:w.ownsRow c e size (Z (T (Q g 0 Y)) n cap) n j):TypeAt w g e:=by
 rcases h.2 with ⟨b,_⟩|⟨g',cap',f,b,_,i,_⟩
 {simp at b};{simp at b;obtain⟨rfl,rfl⟩:=b;exact⟨f,i⟩}
theorem iF{k:Nat}{i:ZI}(h:TypeAt w g e)(j:TypeAt w k i)(f:e≠i):g≠k:=by rintro rfl;obtain⟨c,l⟩:=h;obtain⟨d,b⟩:=j;rw[l] at b;simp at b;exact f b.2
theorem aQ{R:Nat}{v:ZC}{c:List ZC}(h:w.ownsRow b e size v n c)(hR:R<b)(u:ZC):(w.setCell (Q R j Y) u).ownsRow b e size v n c:=by
 refine h.kept (row:=T R) ⟨rfl,rfl,rfl,by simp[World.setCell],λk _ f=>qh _ _ _ _ (by simpa using f)⟩ ?_;rcases h.2 with ⟨rfl,_⟩|⟨g,cap,cur,rfl,hg,_⟩
 {exact .inl rfl};{right;simp[Value.ownBlock];omega}
theorem nT{f:Nat->Ins}(h:w.ownsRow c 151 3 (Z (T (Q g 0 Y)) n cap) n (bJ f n)):RowIns w g 0 n f/\∃F,Cells w g 0 (n*3) F:=by
 have b:=(dN h).2;refine⟨⟨b,λi hi=>⟨?_,?_,?_⟩⟩,λj=>(bJ f n)[j]?.getD undef,b,λj m=>?_⟩;{have:=(cP h (j:=i*3) (u:=N I (f i).op) (by have:=nS f hi 0 (by omega);simpa[gV] using this)).1;rwa[show 0+i*3=i*3 by omega]};{have:=(cP h (j:=i*3+1) (u:=U (f i).s) (by have:=nS f hi 1 (by omega);simpa[gV] using this)).1;rwa[show 0+i*3+1=i*3+1 by omega]};{have:=(cP h (j:=i*3+2) (u:=N I (f i).n) (by have:=nS f hi 2 (by omega);simpa[gV] using this)).1;rwa[show 0+i*3+2=i*3+2 by omega]}
 ·rw[FM];have l:j<(bJ f n).length:=by rw[oW];exact m
  have:=cP h (j:=j) (u:=(bJ f n)[j]) (by rw[gq l]);show w.cell? _=T ((bJ f n)[j]?.getD undef)/\_;rw[gq l];exact this
theorem jm (b off n cap:Nat)(f:Nat->Ins)(w:M)(hn:(n:Int)<=1048576)(x:RowIns w b off n f):Calls Tryz.prog 93 #[ZH #[Z (T (Q b off Y)) n cap]] w λe u=>∃g c,e=ZF (ZH #[Z (T (Q g 0 Y)) n c])/\u.ownsRow w.heap.size 151 3 (Z (T (Q g 0 Y)) n c) n (bJ f n)/\Below w.heap.size w u:=by
 have q:=ae (((q9 w).alloc ly (J #[Z (T (Q b off Y)) n cap] 43)).alloc (by simp) (J #[Z Y 0 0] 43));have ZS:((A w (J #[Z (T (Q b off Y)) n cap] 43)).alloc (J #[Z Y 0 0] 43)).cell? (Q (w.heap.size+1) 0 Y)=T (Z Y 0 0):=by simp
 have B:((A w (J #[Z (T (Q b off Y)) n cap] 43)).alloc (J #[Z Y 0 0] 43)).cell? (Q w.heap.size 0 Y)=T (Z (T (Q b off Y)) n cap):=by simp
 have z0:((A w (J #[Z (T (Q b off Y)) n cap] 43)).alloc (J #[Z Y 0 0] 43)).frozen? (Q (w.heap.size+1) 0 Y)=ZA:=by simp
 have hz:((A w (J #[Z (T (Q b off Y)) n cap] 43)).alloc (J #[Z Y 0 0] 43)).heap.size=w.heap.size+1+1:=by simp
 have y:=ae (x.aa q ly);clear x;obtain⟨z,hi,o,s,r⟩:=OB lm;go_enter func93,ntmps93;have t:=ae ((dB (w.heap.size+1+1) ((A w (J #[Z (T (Q b off Y)) n cap] 43)).alloc (J #[Z Y 0 0] 43))).alloc (by simp) (J #[] 151));have G:=ae (y.aa t (by simp));go_wp2_with (at_builtin;refine BS _ rfl (.tmp 3) (.tmp 5) 41 rfl (w.heap.size+1+1) 151 z (ZH #[N I 0,U ⟨#[]⟩,N I 0]) 3 32 RP hi o s r rfl (by decide) (Z (T (Q (w.heap.size+1+1) 0 Y)) 0 0) 0 [] (by simp[Act.eval]) (by have:=P3 (base:=w.heap.size+1+1) (e:=151) (size:=3) ((A w (J #[Z (T (Q b off Y)) n cap] 43)).alloc (J #[Z Y 0 0] 43)) #[] 0 (by simp) (by unfold maxLen;omega) rfl;simpa using this) (Q b off Y) n cap (bJ f n) (by simp[Act.eval]) (oW f n) (xT G) (Ej f n) (by unfold maxLen;omega) (by omega) (by simp<;>omega) ?_;intro E w2 h i l;simp only[FM,LY] at h;obtain⟨g,c,rfl⟩:∃g c,E=Z (T (Q g 0 Y)) n c:=(by rcases h.2 with ⟨rfl,_⟩|⟨g,c,cur,rfl,_⟩;(have:=l.1 rfl;simp at this);exact⟨g,c,rfl⟩);have m:=ae (bg t i (by simp<;>omega) (λj e=>by simp[Value.ownBlock] at e;omega));have C:=ae (q.trans (m.mono (by omega)));have D:=(m.cell (p:=(Q (w.heap.size+1) 0 Y)) (by simp)).trans ZS;have lz:=(m.frozen (p:=(Q (w.heap.size+1) 0 Y)) (by simp)).trans z0;have F:=ae (aB (aQ (R:=w.heap.size+1) (j:=0) h (by omega) (Z (T (Q g 0 Y)) n c)) (base':=w.heap.size) (by omega));clear h i l ZS B z0);exact bp (v:=ZH #[Z (T (Q g 0 Y)) n c]) (by simp[results,results93,go_sem,D]) rfl ⟨g,c,rfl,F,C.setCell (by simp) _⟩
def bK (x:Source):List ZC:=[U x.e,U x.B]
theorem tF (a:Option Addr)(cap:Nat)(w:M):Calls Tryz.prog 93 #[ZH #[Z a 0 cap]] w λe z=>∃g c,e=ZF (ZH #[Z (T (Q g 0 Y)) 0 c])/\z.ownsRow w.heap.size 151 3 (Z (T (Q g 0 Y)) 0 c) 0 []/\Below w.heap.size w z:=by
 have hz:((A w (J #[Z a 0 cap] 43)).alloc (J #[Z (T (Q (w.heap.size+1+1) 0 Y)) 0 0] 43)).heap.size=w.heap.size+1+1:=by simp
 have x:=ae ((((q9 w).alloc ly (J #[Z a 0 cap] 43)).alloc (by simp) (J #[Z (T (Q (w.heap.size+1+1) 0 Y)) 0 0] 43)).alloc (by rw[hz];omega) (J #[] 151));have y:Hid ((((A w (J #[Z a 0 cap] 43)).alloc (J #[Z (T (Q (w.heap.size+1+1) 0 Y)) 0 0] 43)).alloc (J #[] 151)).ownsRow w.heap.size 151 3 (Z (T (Q (w.heap.size+1+1) 0 Y)) 0 0) 0 []):=by have h:=P3 (base:=w.heap.size) (e:=151) (size:=3) ((A w (J #[Z a 0 cap] 43)).alloc (J #[Z (T (Q (w.heap.size+1+1) 0 Y)) 0 0] 43)) #[] 0 (by rw[hz];omega) (by unfold maxLen;omega) rfl;rw[hz] at h;exact h
 have o:((A w (J #[Z a 0 cap] 43)).alloc (J #[Z Y 0 0] 43)).cell? (Q (w.heap.size+1) 0 Y)=T (Z Y 0 0):=by simp
 have q:((A w (J #[Z a 0 cap] 43)).alloc (J #[Z Y 0 0] 43)).cell? (Q w.heap.size 0 Y)=T (Z a 0 cap):=by simp
 have z0:((A w (J #[Z a 0 cap] 43)).alloc (J #[Z Y 0 0] 43)).frozen? (Q (w.heap.size+1) 0 Y)=ZA:=by simp
 cases a with
 |none =>clear o q z0;go_enter func93,ntmps93;go_wp2;exact bp (v:=ZH #[Z (T (Q (w.heap.size+1+1) 0 Y)) 0 0]) (by simp[results,results93,go_sem]) rfl ⟨_,_,rfl,y,x⟩
 |some i =>
  have D:=ae (((q9 w).alloc ly (J #[Z (T i) 0 cap] 43)).alloc (by simp) (J #[Z Y 0 0] 43));have hz2:((A w (J #[Z (T i) 0 cap] 43)).alloc (J #[Z Y 0 0] 43)).heap.size=w.heap.size+1+1:=by simp
  obtain⟨ZS,hi,r,t,s⟩:=OB lm;have G:=ae ((dB (w.heap.size+1+1) ((A w (J #[Z (T i) 0 cap] 43)).alloc (J #[Z Y 0 0] 43))).alloc (by simp) (J #[] 151));clear x y hz;go_enter func93,ntmps93;go_wp2_with (at_builtin;refine BS _ rfl (.tmp 3) (.tmp 5) 41 rfl (w.heap.size+1+1) 151 ZS (ZH #[N I 0,U ⟨#[]⟩,N I 0]) 3 32 RP hi r t s rfl (by decide) (Z (T (Q (w.heap.size+1+1) 0 Y)) 0 0) 0 [] (by simp[Act.eval]) (by have:=P3 (base:=w.heap.size+1+1) (e:=151) (size:=3) ((A w (J #[Z (T i) 0 cap] 43)).alloc (J #[Z Y 0 0] 43)) #[] 0 (by simp) (by unfold maxLen;omega) rfl;simpa using this) i 0 cap [] (by simp[Act.eval]) rfl (λj u n=>by simp at n) (λu n=>by simp at n) (by unfold maxLen;omega) (by omega) (by simp<;>omega) ?_;intro E w2 b f l;simp only[FM,LY] at b;obtain⟨g,c,rfl⟩:∃g c,E=Z (T (Q g 0 Y)) 0 c:=(by rcases b.2 with ⟨rfl,_⟩|⟨g,c,cur,rfl,_⟩;(have:=l.1 rfl;simp at this);exact⟨g,c,rfl⟩);have m:=ae (bg G f (by simp<;>omega) (λj e=>by simp[Value.ownBlock] at e;omega));have B:=ae (D.trans (m.mono (by omega)));have C:=(m.cell (p:=(Q (w.heap.size+1) 0 Y)) (by simp)).trans o;have lz:=(m.frozen (p:=(Q (w.heap.size+1) 0 Y)) (by simp)).trans z0;have F:=ae (aB (aQ (R:=w.heap.size+1) (j:=0) b (by omega) (Z (T (Q g 0 Y)) 0 c)) (base':=w.heap.size) (by omega));clear b f l o q z0);exact bp (v:=ZH #[Z (T (Q g 0 Y)) 0 c]) (by simp[results,results93,go_sem,C]) rfl ⟨g,c,rfl,F,B.setCell (by simp) _⟩
theorem jn (a:Option Addr)(n cap:Nat)(f:Nat->Ins)(w:M)(hn:(n:Int)<=1048576)(h:SlIns w a n f):Calls Tryz.prog 93 #[ZH #[Z a n cap]] w λe i=>∃g c,e=ZF (ZH #[Z (T (Q g 0 Y)) n c])/\i.ownsRow w.heap.size 151 3 (Z (T (Q g 0 Y)) n c) n (bJ f n)/\Below w.heap.size w i:=by
 rcases h with rfl|⟨b,off,rfl,h⟩
 {exact tF a cap w};{exact jm b off n cap f w hn h}
open Ca
def cQ (x:Link):List ZC:=[U x.e,.bool x.ask,.bool x.has,N I x.L]
def bq (f:Nat->Link)(n:Nat):List ZC:=((List.range n).map f).flatMap cQ
theorem jc (f:Nat->Link)(n:Nat):(bq f n).length=n*4:=by rw[bq,eX cQ 4 (λ_=>rfl)];simp
theorem jS (f:Nat->Link)(hi:i<n)(j:Nat)(b:j<4):(bq f n)[i*4+j]?=(cQ (f i))[j]? :=
 du cQ 4 (λ_=>rfl) _ i j b (f i) (by simp[hi])
theorem AZ (f:Nat->Link)(n:Nat):∀u∈bq f n,u.oneCell'=true:=by intro u b;simp only[bq,P9,cQ] at b;obtain⟨x,_,c⟩:=b;simp at c;rcases c with rfl|rfl|rfl|rfl<;>simp[Value.oneCell']
theorem Ek{f:Nat->Link}(h:RowLink w b off n f):∀j u,(bq f n)[j]?=T u->w.cell? (((Q b off Y):Addr).add j)=T u:=by
 intro j u c;have hl:j<n*4:=by have:=(n8.1 c).1;rwa[jc] at this
 have e:j=j / 4*4+j % 4:=by omega
 have hi:j / 4<n:=by omega
 obtain⟨g,h1,h2,h3⟩:=h.2 (j / 4) hi;have i:j % 4<4:=T8 _ (by omega);rw[e,jS f hi (j % 4) i] at c;have l:((Q b off Y):Addr).add j=(Q b (off+j) Y):=addr_add _ _ _;rw[l];rcases(show j % 4=0∨j % 4=1∨j % 4=2∨j % 4=3 by omega) with q|q|q|q;all_goals rw[q] at c;simp[cQ] at c;subst c
 {rw[show off+j=off+j / 4*4 by omega];exact g};{rw[show off+j=off+j / 4*4+1 by omega];exact h1};{rw[show off+j=off+j / 4*4+2 by omega];exact h2};{rw[show off+j=off+j / 4*4+3 by omega];exact h3}
theorem bE{l:M}{v:ZC}{i:List ZC}(h:w.ownsRow b e size v n i)(hb:∀k,v.ownBlock=T k->OfTy w k e->l.heap[k]?=w.heap[k]?):l.ownsRow b e size v n i:=by
 refine⟨h.1,?_⟩;rcases h.2 with hn|⟨g,cap,f,rfl,j,c,rest⟩
 {exact .inl hn};{exact .inr ⟨g,cap,f,rfl,j,(hb g rfl ⟨f,_,c⟩).trans c,rest⟩}
theorem bu{v:ZC}{j:List ZC}(h:w.ownsRow b e size v n j):∀k,v.ownBlock=T k->OfTy w k e:=by
 intro k c;rcases h.2 with ⟨rfl,_⟩|⟨g,cap,f,rfl,_,i,_⟩
 {simp[Value.ownBlock] at c};{simp[Value.ownBlock] at c;subst c;exact⟨f,_,i⟩}
theorem cC{v:ZC}(h:w.ownsRow b e size v n f)(hn:0<n):∃g cap,v=Z (T (Q g 0 Y)) n cap:=by
 rcases h.2 with ⟨_,h2⟩|⟨g,c,cur,h1,_⟩
 {omega};{exact⟨g,c,h1⟩}
theorem cJ{v:ZC}(h:w.ownsRow b e size v n f):∃a cap,v=Z a n cap:=by
 rcases h.2 with ⟨h1,h2⟩|⟨g,c,cur,h1,_⟩
 {exact⟨Y,0,by rw[h1,h2]⟩};{exact⟨_,_,h1⟩}
abbrev DR:=Deed × ZC × ZC
def ddV (r:DR):List ZC:=[U r.1.e,N I r.1.m,N I r.1.E,U r.1.B,r.2.1,r.2.2]
structure DSub (w:M)(base:Nat)(r:DR):Prop where
 H:w.ownsRow base 151 3 r.2.1 r.1.f (bJ r.1.H r.1.f)
 V:w.ownsRow base 91 4 r.2.2 r.1.b (bq r.1.D r.1.b)
def Apt (a b:ZC):Prop:=a.ownBlock=Y∨a.ownBlock≠b.ownBlock
structure DRow (w:M)(base:Nat)(v:ZC)(R:List DR):Prop where
 i:w.ownsRow base 46 6 v R.length (R.flatMap ddV)
 sub:∀r∈R,DSub w base r
 up:R.Pairwise λa b=>Apt a.2.1 b.2.1/\Apt a.2.2 b.2.2
theorem DSub.ad{r:DR}(h:DSub w b r)(hb:∀k,OfTy w k 151∨OfTy w k 91->b<=k->w'.heap[k]?=w.heap[k]?):DSub w' b r :=
 ⟨bE h.H λk f c=>hb k (.inl c) (h.H.lt k f).1,bE h.V λk f c=>hb k (.inr c) (h.V.lt k f).1⟩
theorem DSub.aa{f:M}{r:DR}(h:DSub w b r)(hb:Below B w f)(c:w.heap.size<=B):DSub f b r:=⟨own_below h.H hb c,own_below h.V hb c⟩
theorem DSub.mono{r:DR}(h:DSub w b r)(hb:base'<=b):DSub w base' r:=⟨aB h.H hb,aB h.V hb⟩
theorem DRow.ad{v:ZC}{R:List DR}(h:DRow w b v R)(hb:∀k,OfTy w k 151∨OfTy w k 91∨OfTy w k 46->b<=k->w'.heap[k]?=w.heap[k]?):DRow w' b v R :=
 ⟨bE h.i λk c f=>hb k (.inr (.inr f)) (h.i.lt k c).1,λr g=>(h.sub r g).ad λk c=>hb k (c.imp id .inl),h.up⟩
theorem DRow.aa{f:M}{v:ZC}{R:List DR}(h:DRow w b v R)(hb:Below B w f)(c:w.heap.size<=B):DRow f b v R :=
 ⟨own_below h.i hb c,λr g=>(h.sub r g).aa hb c,h.up⟩
theorem DRow.mono{v:ZC}{R:List DR}(h:DRow w b v R)(hb:base'<=b):DRow w base' v R:=⟨aB h.i hb,λr c=>(h.sub r c).mono hb,h.up⟩
theorem DRow.set{v:ZC}{R:List DR}(h:DRow w b v R){p:Addr}(g:p.block<b∨(OfTy w p.block e/\e≠151/\e≠91/\e≠46))(u:ZC):DRow (w.setCell p u) b v R :=
 h.ad λk c hb=>qh _ _ _ _ (λx=>by
  subst x;rcases g with g|⟨f,h1,h2,h3⟩
  ·omega
  ·rcases c with c|c|c
   ·exact f.ne (WS h1) c
   ·exact f.ne (WS h2) c
   ·exact f.ne (WS h3) c)
theorem cA (w:M)(b:Nat):DRow w b (Z Y 0 0) []:=⟨A9 _ _ _ _,λr c=>absurd c (by simp),List.Pairwise.nil⟩
theorem DRow.more{i m:M}{v ZS:ZC}{R:List DR}{r:DR}(h:DRow w g v R)(h1:DRow i g v R)(l:g<=w.heap.size)(p:DSub i w.heap.size r)
  (o:m.ownsRow g 46 6 ZS (R.length+1) (R.flatMap ddV++ddV r)) (s:i.grownBy m v.ownBlock):DRow m g ZS (R++[r]):=by
 have u:∀k,OfTy i k 151∨OfTy i k 91->T k≠v.ownBlock:=λk f e=>by
  have t:=bu h1.i k e.symm;rcases f with f|f;{exact t.ne (by decide) f};{exact t.ne (by decide) f}
 have q:∀k,OfTy i k 151∨OfTy i k 91->k<i.heap.size:=λk f=>by rcases f with ⟨c,z,f⟩|⟨c,z,f⟩<;>exact(eT.1 f).1
 have keep:∀k,OfTy i k 151∨OfTy i k 91->m.heap[k]?=i.heap[k]?:=λk f=>s.block k (q k f) (u k f);refine⟨by simpa using o,λx j=>?_,?_⟩;{rcases p8.1 j with j|j;{exact(h1.sub x j).ad λk f _=>keep k f};{simp at j;subst j;exact(p.ad λk f _=>keep k f).mono l}}
 ·rw[PM];refine⟨h.up,by simp,λa B b n=>?_⟩;simp at n;subst n;have y:=h.sub a B;refine⟨?_,?_⟩
  ·cases f:a.2.1.ownBlock with
   |none=>exact .inl f
   |some k =>refine .inr λe=>?_;have h1:=(y.H.lt k f).2;have h2:=(p.H.lt k (e ▸ f)).1;omega
  ·cases f:a.2.2.ownBlock with
   |none=>exact .inl f
   |some k =>refine .inr λe=>?_;have h1:=(y.V.lt k f).2;have h2:=(p.V.lt k (e ▸ f)).1;omega
theorem El{f:Nat->Link}(h:w.ownsRow b 91 4 (Z (T (Q g 0 Y)) n cap) n (bq f n)):RowLink w g 0 n f:=by
 refine⟨(dN h).2,λi hi=>?_⟩;have c:∀j,j<4->∀u,(cQ (f i))[j]?=T u->w.cell? (Q g (0+i*4+j) Y)=T u:=λj m u l=>by have:=(cP h (j:=i*4+j) (u:=u) (by rw[jS f hi j m];exact l)).1;rwa[show 0+i*4+j=i*4+j by omega]
 exact⟨c 0 (by omega) _ rfl,c 1 (by omega) _ rfl,c 2 (by omega) _ rfl,c 3 (by omega) _ rfl⟩
theorem DSub.ins{r:DR}(h:DSub w b r):∃a cap,r.2.1=Z a r.1.f cap/\SlIns w a r.1.f r.1.H:=by
 obtain⟨a,cap,e⟩:=cJ h.H;refine⟨a,cap,e,?_⟩;by_cases hz:r.1.f=0;{exact .inl hz}
 ·obtain⟨g,c,f⟩:=cC h.H (by omega);have i:=h.H;rw[f] at i;rw[e] at f;cases f
  exact .inr ⟨g,0,rfl,(nT i).1⟩
theorem DSub.D{r:DR}(h:DSub w b r):∃a cap,r.2.2=Z a r.1.b cap/\SlLink w a r.1.b r.1.D:=by
 obtain⟨a,cap,e⟩:=cJ h.V;refine⟨a,cap,e,?_⟩;by_cases hz:r.1.b=0;{exact .inl hz}
 ·obtain⟨g,c,f⟩:=cC h.V (by omega);have i:=h.V;rw[f] at i;rw[e] at f;cases f
  exact .inr ⟨g,0,rfl,El i⟩
theorem cZ{R:List DR}(hi:i<R.length):∃r,R[i]?=T r/\r∈R:=⟨R[i],gq hi,gz hi⟩
theorem gv{R:List DR}{r:DR}(h:R[i]?=T r):dF (R.map (·.1)) i=r.1:=by unfold dF;rw[IA,OH,h];rfl
theorem cR{R:List DR}(h:w.ownsRow b 46 6 (Z (T (Q g 0 Y)) R.length cap) R.length (R.flatMap ddV)){r:DR}(f:R[i]?=T r)(j:Nat)(l:j<6)(c:(ddV r)[j]?=T u):w.cell? (Q g (i*6+j) Y)=T u/\w.frozen? (Q g (i*6+j) Y)=ZA :=
 cP h (j:=i*6+j) (u:=u) (by rw[du ddV 6 (λ_=>rfl) R i j l r f];exact c)
theorem DRow.am{a:Option Addr}{R:List DR}(h:DRow w b (Z a R.length c) R):SlDeed w a R.length (dF (R.map (·.1))):=by
 by_cases hz:R.length=0;{exact .inl hz}
 ·obtain⟨g,c',e⟩:=cC h.i (by omega);cases e
  refine .inr ⟨g,0,rfl,(dN h.i).2,λi hi=>?_⟩;obtain⟨r,l,f⟩:=cZ hi;rw[gv l];have c:∀j,j<6->∀u,(ddV r)[j]?=T u->w.cell? (Q g (0+i*6+j) Y)=T u:=λj o u m=>by rw[show 0+i*6+j=i*6+j by omega];exact(cR h.i l j o m).1
  obtain⟨n,c4,p,h4⟩:=(h.sub r f).ins;obtain⟨t,c5,s,q⟩:=(h.sub r f).D;exact⟨c 0 (by omega) _ rfl,c 1 (by omega) _ rfl,c 2 (by omega) _ rfl,c 3 (by omega) _ rfl,⟨n,c4,by rw[<-p];exact c 4 (by omega) _ rfl,h4⟩,⟨t,c5,by rw[<-s];exact c 5 (by omega) _ rfl,q⟩⟩
def rAt (R:List DR)(i:Nat):DR:=R.getD i (fB,Z Y 0 0,Z Y 0 0)
def ra (R:List DR)(i:Nat):Nat:=(rAt R i).1.f
def rl (R:List DR)(i:Nat):Nat:=(rAt R i).1.b
structure CpB (W:M)(h:Nat)(v vo:ZC):Prop where
 size:h+3<=W.heap.size
 a:W.cell? (Q h 0 Y)=T v
 r:W.cell? (Q (h+1) 0 Y)=T (Z Y 0 0)/\W.frozen? (Q (h+1) 0 Y)=ZA
 o:W.cell? (Q (h+2) 0 Y)=T vo/\W.frozen? (Q (h+2) 0 Y)=ZA
theorem ut (W:M)(v:ZC)(t:ZI):(A W (J #[v] t)).cell? (Q W.heap.size 0 Y)=T v/\(A W (J #[v] t)).frozen? (Q W.heap.size 0 Y)=ZA:=by constructor<;>simp
theorem Jh (w:M)(v:ZC)(b:ZI):CpB (((A w (J #[v] b)).alloc (J #[Z Y 0 0] b)).alloc (J #[Z Y 0 0] b)) w.heap.size v (Z Y 0 0):=by
 obtain⟨c,m⟩:∃c,A w (J #[v] b)=c:=⟨_,rfl⟩
 obtain⟨f,j⟩:∃f,A c (J #[Z Y 0 0] b)=f:=⟨_,rfl⟩
 obtain⟨g,i⟩:∃g,A f (J #[Z Y 0 0] b)=g:=⟨_,rfl⟩
 rw[m,j,i];have z1:c.heap.size=w.heap.size+1:=by rw[<-m];simp
 have z2:f.heap.size=w.heap.size+2:=by rw[<-j];simp;omega
 have z3:g.heap.size=w.heap.size+3:=by rw[<-i];simp;omega
 have h:Below f.heap.size f g:=by rw[<-i];exact br.alloc ly _
 have o:Below c.heap.size c g:=(by rw[<-j];exact br.alloc ly _:Below c.heap.size c f).trans (h.mono (by omega));have n1:=ut w v b;have l:=ut c (Z Y 0 0) b;have n:=ut f (Z Y 0 0) b;rw[m] at n1;rw[j,z1] at l;rw[i,z2] at n;exact⟨by omega,(o.cell (p:=(Q w.heap.size 0 Y)) (by show w.heap.size<_;omega)).trans n1.1,⟨(h.cell (p:=(Q (w.heap.size+1) 0 Y)) (by show w.heap.size+1<_;omega)).trans l.1,(h.frozen (p:=(Q (w.heap.size+1) 0 Y)) (by show w.heap.size+1<_;omega)).trans l.2⟩,n⟩
theorem CpB.aa{g:M}{h:Nat}{v j:ZC}(b:CpB W h v j)(hb:Below B W g)(hB:h+3<=B):CpB g h v j:=by have c:∀k o,k<B->g.cell? (Q k o Y)=W.cell? (Q k o Y):=λk o i=>hb.cell (p:=(Q k o Y)) i;have f:∀k o,k<B->g.frozen? (Q k o Y)=W.frozen? (Q k o Y):=λk o i=>hb.frozen (p:=(Q k o Y)) i;exact⟨p7 b.size hb.size,(c _ _ (by omega)).trans b.a,⟨(c _ _ (by omega)).trans b.r.1,(f _ _ (by omega)).trans b.r.2⟩,⟨(c _ _ (by omega)).trans b.o.1,(f _ _ (by omega)).trans b.o.2⟩⟩
theorem CpB.out{h:Nat}{v g:ZC}(b:CpB W h v g)(u:ZC):CpB (W.setCell (Q (h+2) 0 Y) u) h v u:=by have c:∀k o,k≠h+2->(W.setCell (Q (h+2) 0 Y) u).cell? (Q k o Y)=W.cell? (Q k o Y):=λk o f=>cell_far _ _ _ _ (by simpa using λe=>f e.symm);exact⟨by simpa using b.size,(c _ _ (by omega)).trans b.a,⟨(c _ _ (by omega)).trans b.r.1,by simpa using b.r.2⟩,⟨CX _ _ _ (by rw[b.o.1];rfl),by simpa using b.o.2⟩⟩
theorem Ji (w:M)(c m i b l g:ZC)(t:ZI):∀j u,[c,m,i,b,l,g][j]?=T u->(A w (J #[c,m,i,b,l,g] t)).cell? (((Q w.heap.size 0 Y):Addr).add j)=T u:=by
 intro j u f;have hj:j<6:=by have:=(n8.1 f).1;simpa using this
 have h:=oR w c m i b l g t;rw[addr_add,FM];rcases(show j=0∨j=1∨j=2∨j=3∨j=4∨j=5 by omega) with rfl|rfl|rfl|rfl|rfl|rfl;all_goals simp only[List.getElem?_cons_zero,U7,OU] at f;subst f
 {exact h.c0.1};{exact h.c1.1};{exact h.c2.1};{exact h.c3.1};{exact h.c4.1};{exact h.c5.1}
