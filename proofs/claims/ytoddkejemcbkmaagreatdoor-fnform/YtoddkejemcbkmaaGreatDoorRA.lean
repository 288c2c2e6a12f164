import Derived.Test.YtoddkejemcbkmaaGreatDoorSM
import Derived.Test.YtoddkejemcbkmaaGreatDoorSC
import Derived.Test.YtoddkejemcbkmaaGreatDoorSL
import Derived.Lib.SliceRun
set_option maxRecDepth 100000
set_option maxHeartbeats 2000000
open Go renaming Addr.mk->Q,Value.slice->Z,Value.string->U,Value.int->J,Obj.cells->N,IntKind.i64->I,World->M,Value->ZC,TypeId->ZH,Ending.returned->ZF,World.alloc->A
open Option renaming none->Y,some->T
open Bool renaming false->ZA
namespace Go.Proofs.YtoddkejemcbkmaaGreatDoor.Vp
open Tryz RowKit
variable {w w' W:M}{b n size g i c cap B off j base' h:Nat}{e:ZH}{f:List ZC}{u:ZC}
theorem addr_add (b off j:Nat):((Q b off Y):Addr).add j=(Q b (off+j) Y):=by unfold Addr.add;split<;>simp_all
theorem dr {c:Type}(g:c->List ZC)(C:Nat)(b:∀x,(g x).length=C):∀(L:List c) (i j:Nat) (_:j<C) (x:c),L[i]?=T x->(L.flatMap g)[i*C+j]?=(g x)[j]?
 |[],i,j,_,x,h=>by simp at h
 |y::L,0,j,hj,x,h=>by simp at h;subst h;rw[J2,US,F6,MM (by rw[b];exact hj)]
 |y::L,i+1,j,hj,x,h=>by simp at h;rw[J2,I5 (by rw[b,Nat.succ_mul];omega),b,show(i+1)*C+j - C=i*C+j by rw[Nat.succ_mul];omega];exact dr g C b L i j hj x h
theorem eP {b:Type}(g:b->List ZC)(C:Nat)(c:∀x,(g x).length=C):∀L:List b,(L.flatMap g).length=L.length*C
 |[]=>by simp
 |y::L=>by rw[J2,cM,c,eP g C c L,eT,Nat.succ_mul];omega
def gQ (x:Ins):List ZC:=[J I x.op,U x.s,J I x.n]
def bH (f:Nat->Ins)(n:Nat):List ZC:=((List.range n).map f).flatMap gQ
theorem oE (f:Nat->Ins)(n:Nat):(bH f n).length=n*3:=by rw[bH,eP gQ 3 (λ_=>rfl)];simp
theorem nB (f:Nat->Ins)(hi:i<n)(j:Nat)(b:j<3):(bH f n)[i*3+j]?=(gQ (f i))[j]? :=
 dr gQ 3 (λ_=>rfl) _ i j b (f i) (by simp[hi])
theorem CJ (f:Nat->Ins)(n:Nat):∀u∈bH f n,u.oneCell'=true:=by intro u c;simp only[bH,NW,gQ] at c;obtain⟨x,_,b⟩:=c;simp at b;rcases b with rfl|rfl|rfl<;>simp[Value.oneCell']
theorem wY{f:Nat->Ins}(h:RowIns w b off n f):∀j u,(bH f n)[j]?=T u->w.cell? (((Q b off Y):Addr).add j)=T u:=by
 intro j u c;have hl:j<n*3:=by have:=(p6.1 c).1;rwa[oE] at this
 have e:j=j / 3*3+j % 3:=by omega
 have hi:j / 3<n:=by omega
 obtain⟨l,h1,h2⟩:=h.2 (j / 3) hi;have g:j % 3<3:=RJ _ (by omega);rw[e,nB f hi (j % 3) g] at c;have i:((Q b off Y):Addr).add j=(Q b (off+j) Y):=addr_add _ _ _;rw[i];rcases(show j % 3=0∨j % 3=1∨j % 3=2 by omega) with q|q|q;all_goals rw[q] at c;simp[gQ] at c;subst c
 {rw[show off+j=off+j / 3*3 by omega];exact l};{rw[show off+j=off+j / 3*3+1 by omega];exact h1};{rw[show off+j=off+j / 3*3+2 by omega];exact h2}
theorem cO (h:w.ownsRow c e size (Z (T (Q g 0 Y)) n cap) n f)(m:f[j]?=T u):w.cell? (Q g j Y)=T u/\w.frozen? (Q g j Y)=ZA:=by
 refine⟨?_,?_⟩
 ·have:=h.cells (g:=g) rfl j u m;have l:((Q g 0 Y):Addr).add j=(Q g j Y):=by rw[addr_add];simp
  rwa[l] at this
 ·rcases h.2 with ⟨b,_⟩|⟨g',cap',cur,b,_,i,_⟩
  {simp at b};{simp at b;obtain⟨rfl,rfl⟩:=b;simp[World.frozen?,i]}
theorem dL{c:List ZC}(h:w.ownsRow b e size (Z (T (Q g 0 Y)) n cap) n c):b<=g/\g<w.heap.size:=h.lt g rfl
def TypeAt (w:M)(g:Nat)(e:ZH):Prop:=∃b,w.heap[g]?=T (N b e (0,0))
theorem lJ{j:List ZC}(h:w.ownsRow c e size (Z (T (Q g 0 Y)) n cap) n j):TypeAt w g e:=by
 rcases h.2 with ⟨b,_⟩|⟨g',cap',f,b,_,i,_⟩
 {simp at b};{simp at b;obtain⟨rfl,rfl⟩:=b;exact⟨f,i⟩}
theorem iw{k:Nat}{f:ZH}(h:TypeAt w g e)(j:TypeAt w k f)(i:e≠f):g≠k:=by rintro rfl;obtain⟨c,l⟩:=h;obtain⟨d,b⟩:=j;rw[l] at b;simp at b;exact i b.2
theorem aP{R:Nat}{v:ZC}{c:List ZC}(h:w.ownsRow b e size v n c)(hR:R<b)(u:ZC):(w.setCell (Q R j Y) u).ownsRow b e size v n c:=by
 refine h.kept (row:=T R) ⟨rfl,rfl,rfl,by simp[World.setCell],λk _ f=>qh _ _ _ _ (by simpa using f)⟩ ?_;rcases h.2 with ⟨rfl,_⟩|⟨g,cap,cur,rfl,hg,_⟩
 {exact .inl rfl};{right;simp[Value.ownBlock];omega}
theorem nC{f:Nat->Ins}(h:w.ownsRow c 90 3 (Z (T (Q g 0 Y)) n cap) n (bH f n)):RowIns w g 0 n f/\∃F,Cells w g 0 (n*3) F:=by
 have b:=(dL h).2;refine⟨⟨b,λi hi=>⟨?_,?_,?_⟩⟩,λj=>(bH f n)[j]?.getD undef,b,λj m=>?_⟩;{have:=(cO h (j:=i*3) (u:=J I (f i).op) (by have:=nB f hi 0 (by omega);simpa[gQ] using this)).1;rwa[show 0+i*3=i*3 by omega]};{have:=(cO h (j:=i*3+1) (u:=U (f i).s) (by have:=nB f hi 1 (by omega);simpa[gQ] using this)).1;rwa[show 0+i*3+1=i*3+1 by omega]};{have:=(cO h (j:=i*3+2) (u:=J I (f i).n) (by have:=nB f hi 2 (by omega);simpa[gQ] using this)).1;rwa[show 0+i*3+2=i*3+2 by omega]}
 ·rw[F6];have l:j<(bH f n).length:=by rw[oE];exact m
  have:=cO h (j:=j) (u:=(bH f n)[j]) (by rw[gq l]);show w.cell? _=T ((bH f n)[j]?.getD undef)/\_;rw[gq l];exact this
theorem jd (b off n cap:Nat)(f:Nat->Ins)(w:M)(hn:(n:Int)<=1048576)(t:RowIns w b off n f):Calls Tryz.prog 111 #[.agg #[Z (T (Q b off Y)) n cap]] w λe u=>∃g c,e=ZF (.agg #[Z (T (Q g 0 Y)) n c])/\u.ownsRow w.heap.size 90 3 (Z (T (Q g 0 Y)) n c) n (bH f n)/\Below w.heap.size w u:=by
 have z:=ae (((q9 w).alloc ly (N #[Z (T (Q b off Y)) n cap] 59)).alloc (by simp) (N #[Z Y 0 0] 59));have o:((A w (N #[Z (T (Q b off Y)) n cap] 59)).alloc (N #[Z Y 0 0] 59)).cell? (Q (w.heap.size+1) 0 Y)=T (Z Y 0 0):=by simp
 have C:((A w (N #[Z (T (Q b off Y)) n cap] 59)).alloc (N #[Z Y 0 0] 59)).cell? (Q w.heap.size 0 Y)=T (Z (T (Q b off Y)) n cap):=by simp
 have z0:((A w (N #[Z (T (Q b off Y)) n cap] 59)).alloc (N #[Z Y 0 0] 59)).frozen? (Q (w.heap.size+1) 0 Y)=ZA:=by simp
 have hz:((A w (N #[Z (T (Q b off Y)) n cap] 59)).alloc (N #[Z Y 0 0] 59)).heap.size=w.heap.size+1+1:=by simp
 have y:=ae (t.aa z ly);clear t;obtain⟨ZR,hi,x,r,s⟩:=LY kU;go_enter func111,ntmps111;have q:=ae ((eL (w.heap.size+1+1) ((A w (N #[Z (T (Q b off Y)) n cap] 59)).alloc (N #[Z Y 0 0] 59))).alloc (by simp) (N #[] 90));have G:=ae (y.aa q (by simp));go_wp2_with (at_builtin;refine BS _ rfl (.tmp 3) (.tmp 5) 57 rfl (w.heap.size+1+1) 90 ZR (.agg #[J I 0,U ⟨#[]⟩,J I 0]) 3 32 PU hi x r s rfl (by decide) (Z (T (Q (w.heap.size+1+1) 0 Y)) 0 0) 0 [] (by simp[Act.eval]) (by have:=NQ (base:=w.heap.size+1+1) (e:=90) (size:=3) ((A w (N #[Z (T (Q b off Y)) n cap] 59)).alloc (N #[Z Y 0 0] 59)) #[] 0 (by simp) (by unfold maxLen;omega) rfl;simpa using this) (Q b off Y) n cap (bH f n) (by simp[Act.eval]) (oE f n) (wY G) (CJ f n) (by unfold maxLen;omega) (by omega) (by simp<;>omega) ?_;intro F w2 h i l;simp only[F6,MH] at h;obtain⟨g,c,rfl⟩:∃g c,F=Z (T (Q g 0 Y)) n c:=(by rcases h.2 with ⟨rfl,_⟩|⟨g,c,cur,rfl,_⟩;(have:=l.1 rfl;simp at this);exact⟨g,c,rfl⟩);have m:=ae (bg q i (by simp<;>omega) (λj e=>by simp[Value.ownBlock] at e;omega));have B:=ae (z.trans (m.mono (by omega)));have E:=(m.cell (p:=(Q (w.heap.size+1) 0 Y)) (by simp)).trans o;have lz:=(m.frozen (p:=(Q (w.heap.size+1) 0 Y)) (by simp)).trans z0;have D:=ae (aC (aP (R:=w.heap.size+1) (j:=0) h (by omega) (Z (T (Q g 0 Y)) n c)) (base':=w.heap.size) (by omega));clear h i l o C z0);exact bp (v:=.agg #[Z (T (Q g 0 Y)) n c]) (by simp[results,results111,go_sem,E]) rfl ⟨g,c,rfl,D,B.setCell (by simp) _⟩
def bI (x:Source):List ZC:=[U x.e,U x.h]
theorem sJ (a:Option Addr)(cap:Nat)(w:M):Calls Tryz.prog 111 #[.agg #[Z a 0 cap]] w λe x=>∃g c,e=ZF (.agg #[Z (T (Q g 0 Y)) 0 c])/\x.ownsRow w.heap.size 90 3 (Z (T (Q g 0 Y)) 0 c) 0 []/\Below w.heap.size w x:=by
 have hz:((A w (N #[Z a 0 cap] 59)).alloc (N #[Z (T (Q (w.heap.size+1+1) 0 Y)) 0 0] 59)).heap.size=w.heap.size+1+1:=by simp
 have q:=ae ((((q9 w).alloc ly (N #[Z a 0 cap] 59)).alloc (by simp) (N #[Z (T (Q (w.heap.size+1+1) 0 Y)) 0 0] 59)).alloc (by rw[hz];omega) (N #[] 90));have z:Hid ((((A w (N #[Z a 0 cap] 59)).alloc (N #[Z (T (Q (w.heap.size+1+1) 0 Y)) 0 0] 59)).alloc (N #[] 90)).ownsRow w.heap.size 90 3 (Z (T (Q (w.heap.size+1+1) 0 Y)) 0 0) 0 []):=by have h:=NQ (base:=w.heap.size) (e:=90) (size:=3) ((A w (N #[Z a 0 cap] 59)).alloc (N #[Z (T (Q (w.heap.size+1+1) 0 Y)) 0 0] 59)) #[] 0 (by rw[hz];omega) (by unfold maxLen;omega) rfl;rw[hz] at h;exact h
 have m:((A w (N #[Z a 0 cap] 59)).alloc (N #[Z Y 0 0] 59)).cell? (Q (w.heap.size+1) 0 Y)=T (Z Y 0 0):=by simp
 have r:((A w (N #[Z a 0 cap] 59)).alloc (N #[Z Y 0 0] 59)).cell? (Q w.heap.size 0 Y)=T (Z a 0 cap):=by simp
 have z0:((A w (N #[Z a 0 cap] 59)).alloc (N #[Z Y 0 0] 59)).frozen? (Q (w.heap.size+1) 0 Y)=ZA:=by simp
 cases a with
 |none =>clear m r z0;go_enter func111,ntmps111;go_wp2;exact bp (v:=.agg #[Z (T (Q (w.heap.size+1+1) 0 Y)) 0 0]) (by simp[results,results111,go_sem]) rfl ⟨_,_,rfl,z,q⟩
 |some i =>
  have F:=ae (((q9 w).alloc ly (N #[Z (T i) 0 cap] 59)).alloc (by simp) (N #[Z Y 0 0] 59));have hz2:((A w (N #[Z (T i) 0 cap] 59)).alloc (N #[Z Y 0 0] 59)).heap.size=w.heap.size+1+1:=by simp
  obtain⟨ZR,hi,y,s,t⟩:=LY kU;have E:=ae ((eL (w.heap.size+1+1) ((A w (N #[Z (T i) 0 cap] 59)).alloc (N #[Z Y 0 0] 59))).alloc (by simp) (N #[] 90));clear q z hz;go_enter func111,ntmps111;go_wp2_with (at_builtin;refine BS _ rfl (.tmp 3) (.tmp 5) 57 rfl (w.heap.size+1+1) 90 ZR (.agg #[J I 0,U ⟨#[]⟩,J I 0]) 3 32 PU hi y s t rfl (by decide) (Z (T (Q (w.heap.size+1+1) 0 Y)) 0 0) 0 [] (by simp[Act.eval]) (by have:=NQ (base:=w.heap.size+1+1) (e:=90) (size:=3) ((A w (N #[Z (T i) 0 cap] 59)).alloc (N #[Z Y 0 0] 59)) #[] 0 (by simp) (by unfold maxLen;omega) rfl;simpa using this) i 0 cap [] (by simp[Act.eval]) rfl (λj u n=>by simp at n) (λu n=>by simp at n) (by unfold maxLen;omega) (by omega) (by simp<;>omega) ?_;intro G w2 b f l;simp only[F6,MH] at b;obtain⟨g,c,rfl⟩:∃g c,G=Z (T (Q g 0 Y)) 0 c:=(by rcases b.2 with ⟨rfl,_⟩|⟨g,c,cur,rfl,_⟩;(have:=l.1 rfl;simp at this);exact⟨g,c,rfl⟩);have o:=ae (bg E f (by simp<;>omega) (λj e=>by simp[Value.ownBlock] at e;omega));have B:=ae (F.trans (o.mono (by omega)));have D:=(o.cell (p:=(Q (w.heap.size+1) 0 Y)) (by simp)).trans m;have lz:=(o.frozen (p:=(Q (w.heap.size+1) 0 Y)) (by simp)).trans z0;have C:=ae (aC (aP (R:=w.heap.size+1) (j:=0) b (by omega) (Z (T (Q g 0 Y)) 0 c)) (base':=w.heap.size) (by omega));clear b f l m r z0);exact bp (v:=.agg #[Z (T (Q g 0 Y)) 0 c]) (by simp[results,results111,go_sem,D]) rfl ⟨g,c,rfl,C,B.setCell (by simp) _⟩
theorem je (a:Option Addr)(n cap:Nat)(f:Nat->Ins)(w:M)(hn:(n:Int)<=1048576)(h:SlIns w a n f):Calls Tryz.prog 111 #[.agg #[Z a n cap]] w λe i=>∃g c,e=ZF (.agg #[Z (T (Q g 0 Y)) n c])/\i.ownsRow w.heap.size 90 3 (Z (T (Q g 0 Y)) n c) n (bH f n)/\Below w.heap.size w i:=by
 rcases h with rfl|⟨b,off,rfl,h⟩
 {exact sJ a cap w};{exact jd b off n cap f w hn h}
open Ca
def cP (x:Link):List ZC:=[U x.e,.bool x.ask,.bool x.has,J I x.L]
def bo (f:Nat->Link)(n:Nat):List ZC:=((List.range n).map f).flatMap cP
theorem iT (f:Nat->Link)(n:Nat):(bo f n).length=n*4:=by rw[bo,eP cP 4 (λ_=>rfl)];simp
theorem jG (f:Nat->Link)(hi:i<n)(j:Nat)(b:j<4):(bo f n)[i*4+j]?=(cP (f i))[j]? :=
 dr cP 4 (λ_=>rfl) _ i j b (f i) (by simp[hi])
theorem zT (f:Nat->Link)(n:Nat):∀u∈bo f n,u.oneCell'=true:=by intro u c;simp only[bo,NW,cP] at c;obtain⟨x,_,b⟩:=c;simp at b;rcases b with rfl|rfl|rfl|rfl<;>simp[Value.oneCell']
theorem CL{f:Nat->Link}(h:RowLink w b off n f):∀j u,(bo f n)[j]?=T u->w.cell? (((Q b off Y):Addr).add j)=T u:=by
 intro j u c;have hl:j<n*4:=by have:=(p6.1 c).1;rwa[iT] at this
 have e:j=j / 4*4+j % 4:=by omega
 have hi:j / 4<n:=by omega
 obtain⟨g,h1,h2,h3⟩:=h.2 (j / 4) hi;have l:j % 4<4:=RJ _ (by omega);rw[e,jG f hi (j % 4) l] at c;have i:((Q b off Y):Addr).add j=(Q b (off+j) Y):=addr_add _ _ _;rw[i];rcases(show j % 4=0∨j % 4=1∨j % 4=2∨j % 4=3 by omega) with q|q|q|q;all_goals rw[q] at c;simp[cP] at c;subst c
 {rw[show off+j=off+j / 4*4 by omega];exact g};{rw[show off+j=off+j / 4*4+1 by omega];exact h1};{rw[show off+j=off+j / 4*4+2 by omega];exact h2};{rw[show off+j=off+j / 4*4+3 by omega];exact h3}
theorem bE{l:M}{v:ZC}{i:List ZC}(h:w.ownsRow b e size v n i)(hb:∀k,v.ownBlock=T k->OfTy w k e->l.heap[k]?=w.heap[k]?):l.ownsRow b e size v n i:=by
 refine⟨h.1,?_⟩;rcases h.2 with hn|⟨g,cap,f,rfl,j,c,rest⟩
 {exact .inl hn};{exact .inr ⟨g,cap,f,rfl,j,(hb g rfl ⟨f,_,c⟩).trans c,rest⟩}
theorem bq{v:ZC}{j:List ZC}(h:w.ownsRow c e size v n j):∀k,v.ownBlock=T k->OfTy w k e:=by
 intro k b;rcases h.2 with ⟨rfl,_⟩|⟨g,cap,f,rfl,_,i,_⟩
 {simp[Value.ownBlock] at b};{simp[Value.ownBlock] at b;subst b;exact⟨f,_,i⟩}
theorem bV{v:ZC}(h:w.ownsRow b e size v n f)(hn:0<n):∃g cap,v=Z (T (Q g 0 Y)) n cap:=by
 rcases h.2 with ⟨_,h2⟩|⟨g,c,cur,h1,_⟩
 {omega};{exact⟨g,c,h1⟩}
theorem bK{v:ZC}(h:w.ownsRow b e size v n f):∃a cap,v=Z a n cap:=by
 rcases h.2 with ⟨h1,h2⟩|⟨g,c,cur,h1,_⟩
 {exact⟨Y,0,by rw[h1,h2]⟩};{exact⟨_,_,h1⟩}
abbrev DR:=Deed × ZC × ZC
def ddV (r:DR):List ZC:=[U r.1.e,J I r.1.E,J I r.1.B,U r.1.h,r.2.1,r.2.2]
structure DSub (w:M)(base:Nat)(r:DR):Prop where
 G:w.ownsRow base 90 3 r.2.1 r.1.f (bH r.1.G r.1.f)
 V:w.ownsRow base 93 4 r.2.2 r.1.b (bo r.1.m r.1.b)
def Apt (a b:ZC):Prop:=a.ownBlock=Y∨a.ownBlock≠b.ownBlock
structure DRow (w:M)(base:Nat)(v:ZC)(R:List DR):Prop where
 i:w.ownsRow base 62 6 v R.length (R.flatMap ddV)
 sub:∀r∈R,DSub w base r
 up:R.Pairwise λa b=>Apt a.2.1 b.2.1/\Apt a.2.2 b.2.2
theorem DSub.ab{r:DR}(h:DSub w b r)(hb:∀k,OfTy w k 90∨OfTy w k 93->b<=k->w'.heap[k]?=w.heap[k]?):DSub w' b r :=
 ⟨bE h.G λk f c=>hb k (.inl c) (h.G.lt k f).1,bE h.V λk f c=>hb k (.inr c) (h.V.lt k f).1⟩
theorem DSub.aa{f:M}{r:DR}(h:DSub w b r)(hb:Below B w f)(c:w.heap.size<=B):DSub f b r:=⟨own_below h.G hb c,own_below h.V hb c⟩
theorem DSub.mono{r:DR}(h:DSub w b r)(hb:base'<=b):DSub w base' r:=⟨aC h.G hb,aC h.V hb⟩
theorem DRow.ab{v:ZC}{R:List DR}(h:DRow w b v R)(hb:∀k,OfTy w k 90∨OfTy w k 93∨OfTy w k 62->b<=k->w'.heap[k]?=w.heap[k]?):DRow w' b v R :=
 ⟨bE h.i λk c f=>hb k (.inr (.inr f)) (h.i.lt k c).1,λr g=>(h.sub r g).ab λk c=>hb k (c.imp id .inl),h.up⟩
theorem DRow.aa{f:M}{v:ZC}{R:List DR}(h:DRow w b v R)(hb:Below B w f)(c:w.heap.size<=B):DRow f b v R :=
 ⟨own_below h.i hb c,λr g=>(h.sub r g).aa hb c,h.up⟩
theorem DRow.mono{v:ZC}{R:List DR}(h:DRow w b v R)(hb:base'<=b):DRow w base' v R:=⟨aC h.i hb,λr c=>(h.sub r c).mono hb,h.up⟩
theorem DRow.set{v:ZC}{R:List DR}(h:DRow w c v R){p:Addr}(g:p.block<c∨(OfTy w p.block e/\e≠90/\e≠93/\e≠62))(u:ZC):DRow (w.setCell p u) c v R :=
 h.ab λk b hb=>qh _ _ _ _ (λx=>by
  subst x;rcases g with g|⟨f,h1,h2,h3⟩
  ·omega
  ·rcases b with b|b|b
   ·exact f.ne (UT h1) b
   ·exact f.ne (UT h2) b
   ·exact f.ne (UT h3) b)
theorem dN (w:M)(b:Nat):DRow w b (Z Y 0 0) []:=⟨AT _ _ _ _,λr c=>absurd c (by simp),List.Pairwise.nil⟩
theorem DRow.more{g m:M}{v t:ZC}{R:List DR}{r:DR}(h:DRow w i v R)(h1:DRow g i v R)(l:i<=w.heap.size)(o:DSub g w.heap.size r)
  (p:m.ownsRow i 62 6 t (R.length+1) (R.flatMap ddV++ddV r)) (ZR:g.grownBy m v.ownBlock):DRow m i t (R++[r]):=by
 have q:∀k,OfTy g k 90∨OfTy g k 93->T k≠v.ownBlock:=λk f e=>by
  have y:=bq h1.i k e.symm;rcases f with f|f;{exact y.ne (by decide) f};{exact y.ne (by decide) f}
 have s:∀k,OfTy g k 90∨OfTy g k 93->k<g.heap.size:=λk f=>by rcases f with ⟨c,z,f⟩|⟨c,z,f⟩<;>exact(gM.1 f).1
 have keep:∀k,OfTy g k 90∨OfTy g k 93->m.heap[k]?=g.heap[k]?:=λk f=>ZR.block k (s k f) (q k f);refine⟨by simpa using p,λx j=>?_,?_⟩;{rcases p8.1 j with j|j;{exact(h1.sub x j).ab λk f _=>keep k f};{simp at j;subst j;exact(o.ab λk f _=>keep k f).mono l}}
 ·rw[NI];refine⟨h.up,by simp,λa B b n=>?_⟩;simp at n;subst n;have u:=h.sub a B;refine⟨?_,?_⟩
  ·cases f:a.2.1.ownBlock with
   |none=>exact .inl f
   |some k =>refine .inr λe=>?_;have h1:=(u.G.lt k f).2;have h2:=(o.G.lt k (e ▸ f)).1;omega
  ·cases f:a.2.2.ownBlock with
   |none=>exact .inl f
   |some k =>refine .inr λe=>?_;have h1:=(u.V.lt k f).2;have h2:=(o.V.lt k (e ▸ f)).1;omega
theorem CN{f:Nat->Link}(h:w.ownsRow b 93 4 (Z (T (Q g 0 Y)) n cap) n (bo f n)):RowLink w g 0 n f:=by
 refine⟨(dL h).2,λi hi=>?_⟩;have c:∀j,j<4->∀u,(cP (f i))[j]?=T u->w.cell? (Q g (0+i*4+j) Y)=T u:=λj l u m=>by have:=(cO h (j:=i*4+j) (u:=u) (by rw[jG f hi j l];exact m)).1;rwa[show 0+i*4+j=i*4+j by omega]
 exact⟨c 0 (by omega) _ rfl,c 1 (by omega) _ rfl,c 2 (by omega) _ rfl,c 3 (by omega) _ rfl⟩
theorem DSub.ins{f:Nat}{r:DR}(h:DSub w f r):∃a cap,r.2.1=Z a r.1.f cap/\SlIns w a r.1.f r.1.G:=by
 obtain⟨a,cap,e⟩:=bK h.G;refine⟨a,cap,e,?_⟩;by_cases hz:r.1.f=0;{exact .inl hz}
 ·obtain⟨g,c,b⟩:=bV h.G (by omega);have i:=h.G;rw[b] at i;rw[e] at b;cases b
  exact .inr ⟨g,0,rfl,(nC i).1⟩
theorem DSub.m{f:Nat}{r:DR}(h:DSub w f r):∃a cap,r.2.2=Z a r.1.b cap/\SlLink w a r.1.b r.1.m:=by
 obtain⟨a,cap,e⟩:=bK h.V;refine⟨a,cap,e,?_⟩;by_cases hz:r.1.b=0;{exact .inl hz}
 ·obtain⟨g,c,b⟩:=bV h.V (by omega);have i:=h.V;rw[b] at i;rw[e] at b;cases b
  exact .inr ⟨g,0,rfl,CN i⟩
theorem cX{R:List DR}(hi:i<R.length):∃r,R[i]?=T r/\r∈R:=⟨R[i],gq hi,gz hi⟩
theorem fX{R:List DR}{r:DR}(h:R[i]?=T r):dF (R.map (·.1)) i=r.1:=by unfold dF;rw[IX,MK,h];rfl
theorem cD{R:List DR}(h:w.ownsRow b 62 6 (Z (T (Q g 0 Y)) R.length cap) R.length (R.flatMap ddV)){r:DR}(f:R[i]?=T r)(j:Nat)(c:j<6)(l:(ddV r)[j]?=T u):w.cell? (Q g (i*6+j) Y)=T u/\w.frozen? (Q g (i*6+j) Y)=ZA :=
 cO h (j:=i*6+j) (u:=u) (by rw[dr ddV 6 (λ_=>rfl) R i j c r f];exact l)
theorem DRow.am{a:Option Addr}{R:List DR}(h:DRow w b (Z a R.length c) R):SlDeed w a R.length (dF (R.map (·.1))):=by
 by_cases hz:R.length=0;{exact .inl hz}
 ·obtain⟨g,c',e⟩:=bV h.i (by omega);cases e
  refine .inr ⟨g,0,rfl,(dL h.i).2,λi hi=>?_⟩;obtain⟨r,f,l⟩:=cX hi;rw[fX f];have c:∀j,j<6->∀u,(ddV r)[j]?=T u->w.cell? (Q g (0+i*6+j) Y)=T u:=λj m u n=>by rw[show 0+i*6+j=i*6+j by omega];exact(cD h.i f j m n).1
  obtain⟨t,c4,o,h4⟩:=(h.sub r l).ins;obtain⟨q,c5,p,s⟩:=(h.sub r l).m;exact⟨c 0 (by omega) _ rfl,c 1 (by omega) _ rfl,c 2 (by omega) _ rfl,c 3 (by omega) _ rfl,⟨t,c4,by rw[<-o];exact c 4 (by omega) _ rfl,h4⟩,⟨q,c5,by rw[<-p];exact c 5 (by omega) _ rfl,s⟩⟩
def rAt (R:List DR)(i:Nat):DR:=R.getD i (ft,Z Y 0 0,Z Y 0 0)
def ra (R:List DR)(i:Nat):Nat:=(rAt R i).1.f
def rl (R:List DR)(i:Nat):Nat:=(rAt R i).1.b
structure CpB (W:M)(h:Nat)(v vo:ZC):Prop where
 size:h+3<=W.heap.size
 a:W.cell? (Q h 0 Y)=T v
 r:W.cell? (Q (h+1) 0 Y)=T (Z Y 0 0)/\W.frozen? (Q (h+1) 0 Y)=ZA
 o:W.cell? (Q (h+2) 0 Y)=T vo/\W.frozen? (Q (h+2) 0 Y)=ZA
theorem tB (W:M)(v:ZC)(t:ZH):(A W (N #[v] t)).cell? (Q W.heap.size 0 Y)=T v/\(A W (N #[v] t)).frozen? (Q W.heap.size 0 Y)=ZA:=by constructor<;>simp
theorem Hs (w:M)(v:ZC)(c:ZH):CpB (((A w (N #[v] c)).alloc (N #[Z Y 0 0] c)).alloc (N #[Z Y 0 0] c)) w.heap.size v (Z Y 0 0):=by
 obtain⟨b,l⟩:∃b,A w (N #[v] c)=b:=⟨_,rfl⟩
 obtain⟨f,j⟩:∃f,A b (N #[Z Y 0 0] c)=f:=⟨_,rfl⟩
 obtain⟨g,i⟩:∃g,A f (N #[Z Y 0 0] c)=g:=⟨_,rfl⟩
 rw[l,j,i];have z1:b.heap.size=w.heap.size+1:=by rw[<-l];simp
 have z2:f.heap.size=w.heap.size+2:=by rw[<-j];simp;omega
 have z3:g.heap.size=w.heap.size+3:=by rw[<-i];simp;omega
 have h:Below f.heap.size f g:=by rw[<-i];exact br.alloc ly _
 have o:Below b.heap.size b g:=(by rw[<-j];exact br.alloc ly _:Below b.heap.size b f).trans (h.mono (by omega));have n1:=tB w v c;have m:=tB b (Z Y 0 0) c;have n:=tB f (Z Y 0 0) c;rw[l] at n1;rw[j,z1] at m;rw[i,z2] at n;exact⟨by omega,(o.cell (p:=(Q w.heap.size 0 Y)) (by show w.heap.size<_;omega)).trans n1.1,⟨(h.cell (p:=(Q (w.heap.size+1) 0 Y)) (by show w.heap.size+1<_;omega)).trans m.1,(h.frozen (p:=(Q (w.heap.size+1) 0 Y)) (by show w.heap.size+1<_;omega)).trans m.2⟩,n⟩
theorem CpB.aa{g:M}{v j:ZC}(b:CpB W h v j)(hb:Below B W g)(hB:h+3<=B):CpB g h v j:=by have c:∀k o,k<B->g.cell? (Q k o Y)=W.cell? (Q k o Y):=λk o i=>hb.cell (p:=(Q k o Y)) i;have f:∀k o,k<B->g.frozen? (Q k o Y)=W.frozen? (Q k o Y):=λk o i=>hb.frozen (p:=(Q k o Y)) i;exact⟨p9 b.size hb.size,(c _ _ (by omega)).trans b.a,⟨(c _ _ (by omega)).trans b.r.1,(f _ _ (by omega)).trans b.r.2⟩,⟨(c _ _ (by omega)).trans b.o.1,(f _ _ (by omega)).trans b.o.2⟩⟩
theorem CpB.out{v g:ZC}(b:CpB W h v g)(u:ZC):CpB (W.setCell (Q (h+2) 0 Y) u) h v u:=by have c:∀k o,k≠h+2->(W.setCell (Q (h+2) 0 Y) u).cell? (Q k o Y)=W.cell? (Q k o Y):=λk o f=>cell_far _ _ _ _ (by simpa using λe=>f e.symm);exact⟨by simpa using b.size,(c _ _ (by omega)).trans b.a,⟨(c _ _ (by omega)).trans b.r.1,by simpa using b.r.2⟩,⟨DN _ _ _ (by rw[b.o.1];rfl),by simpa using b.o.2⟩⟩
theorem Ht (w:M)(b m i c g l:ZC)(t:ZH):∀j u,[b,m,i,c,g,l][j]?=T u->(A w (N #[b,m,i,c,g,l] t)).cell? (((Q w.heap.size 0 Y):Addr).add j)=T u:=by
 intro j u f;have hj:j<6:=by have:=(p6.1 f).1;simpa using this
 have h:=oz w b m i c g l t;rw[addr_add,F6];rcases(show j=0∨j=1∨j=2∨j=3∨j=4∨j=5 by omega) with rfl|rfl|rfl|rfl|rfl|rfl;all_goals simp only[List.getElem?_cons_zero,TH,MU] at f;subst f
 {exact h.c0.1};{exact h.c1.1};{exact h.c2.1};{exact h.c3.1};{exact h.c4.1};{exact h.c5.1}
