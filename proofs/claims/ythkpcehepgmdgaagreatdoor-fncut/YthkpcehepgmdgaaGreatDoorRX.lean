import Derived.Test.YthkpcehepgmdgaaGreatDoorRR
import Derived.Deep.RegionHeld3
import Derived.Defers
import Derived.Recover
set_option maxRecDepth 100000
set_option maxHeartbeats 4000000
open Go renaming Addr.mk->Q,Value.slice->Z,Value.string->U,Value.int->J,Value.agg->ZH,Obj.cells->N,IntKind.i64->I,World->G,Value->ZD,Ending.returned->ZG,World.heap->h,World.ownsRow->ZV,World.alloc->ZU
open Option renaming none->Y,some->T
open Bool renaming false->ZB
open Array renaming size->A
open List renaming length->ZT
namespace Go.Proofs.YthkpcehepgmdgaaGreatDoor.Vp
open Tryz RowKit Go.Maps Ca
def sJ (w b:G)(r:jZ)(v:ZD):Prop:=∃a c,v=ZH #[J I r.E,U r.B,Z a (ZT r.chain) c]/\ZV b (A (h w)) 9 1 (Z a (ZT r.chain) c) (ZT r.chain) (cI r.chain)
theorem AN (w b:G)(c:Int)(t:ByteArray):sJ w b ⟨c,t,[]⟩ (ZH #[J I c,U t,Z Y 0 0]):=⟨Y,0,rfl,⟨rfl,.inl ⟨rfl,rfl⟩⟩⟩
section
variable {S:Spc}{a0 a1:Option Addr}{c0 c1:Nat}
theorem DO (S:Spc):ed S [] []<=S.n1:=by have:=QB (p:=iX S [] []) (l:=List.range S.n1);rw[List.length_range] at this;exact this
end
def FA (f:G)(hb:Nat)(s0 s1:ZD)(b:G):Out Ent->Prop
 |.inl (made',x)=>∃L ZX g st,ShBox b hb s0 s1 ZX g st (dK x).E (dK x).B (Z Y 0 0) ZB/\ZV b (A (h f)) 137 6 ZX (ZT L) (L.flatMap smV)/\ZV b (A (h f)) 9 1 g (ZT made') (cI (made'.map (·.e)))/\(∀m∈L,m.done=true->ZV b (A (h f)) 140 3 m.sv (ZT m.V) (er m.V))/\fx L [] made'
 |.inr (.inl c)=>∃a k,iJ f hb b (i8 c) (Z a (ZT c) k)
 |.inr (.inr d)=>iJ f hb b (ja d) (Z Y 0 0)
section
variable {S:Spc}{a0 a1:Option Addr}{c0 c1:Nat}
theorem vT (w:G)(C:oR w S a0 a1)(nm:ByteArray)(hn:av nm=true):Calls Tryz.prog 36 #[ZH #[Z a0 S.n0 c0,Z a1 S.n1 c1],U nm] w λe O=>∃hb,e=ZG (.pointer (T (Q hb 0 Y)))/\FA w hb (Z a0 S.n0 c0) (Z a1 S.n1 c1) O (aL S 60 [] [] nm)/\Below (A (h w)) w O:=by
 obtain⟨R,hR⟩:∃R,R=aL S 60 [] [] nm:=⟨_,rfl⟩
 have HM:Hid (∀(W:G) (hb:Nat),SI w hb (Z a0 S.n0 c0) (Z a1 S.n1 c1) W [] [] [] (Z Y 0 0) (Z Y 0 0) (Z Y 0 0)->Calls Tryz.prog 75 #[.pointer (T (Q hb 0 Y)),U nm] W λe O=>lO w hb (Z a0 S.n0 c0) (Z a1 S.n1 c1) [] [] W e O R):=by intro W hb ZN;rw[hR];refine Dy C 60 [] [] [] _ _ _ W nm rfl ZN ⟨List.Pairwise.nil,rfl,λx t=>absurd t nj,λx t=>absurd t nj,λx t=>absurd t nj⟩ (iF S []) ?_ (λx t=>absurd t nj) hn;have h1:=DO S;have h2:=C.ok.bh;unfold eX;simp only[J1];omega
 rw[<-hR];have zA:A (h (ZU w (N #[Z a0 S.n0 c0,Z a1 S.n1 c1] 33)))=A (h w)+1:=by simp
 obtain⟨W0,z⟩:∃W:G,ZU (ZU w (N #[Z a0 S.n0 c0,Z a1 S.n1 c1] 33)) (N #[Z a0 S.n0 c0,Z a1 S.n1 c1,Z Y 0 0,Z Y 0 0,Z Y 0 0,J I 0,U ⟨#[]⟩,Z Y 0 0,.bool ZB] 81)=W:=⟨_,rfl⟩
 obtain⟨ZO,-,-,-⟩:=nb2 z;have y:=ae z;clear z;have S0:Hid (SI w (A (h w)+1) (Z a0 S.n0 c0) (Z a1 S.n1 c1) W0 [] [] [] (Z Y 0 0) (Z Y 0 0) (Z Y 0 0)):=by
  cases y.out
  refine⟨ZO,IS _,?_,⟨rfl,.inl ⟨rfl,rfl⟩⟩,⟨rfl,.inl ⟨rfl,rfl⟩⟩,⟨rfl,.inl ⟨rfl,rfl⟩⟩,(λk ZX=>by cases ZX),λm V=>absurd V nj⟩;have h2:=nD (ZU w (N #[Z a0 S.n0 c0,Z a1 S.n1 c1] 33)) (N #[Z a0 S.n0 c0,Z a1 S.n1 c1,Z Y 0 0,Z Y 0 0,Z Y 0 0,J I 0,U ⟨#[]⟩,Z Y 0 0,.bool ZB] 81);rw[zA] at h2;exact h2
 clear hn C hR zA;go_enter func36,ntmps36;go_wp2_with fail;rw[y.out];clear y;obtain⟨hb,ZM⟩:∃hb,hb=A (h w)+1:=⟨_,rfl⟩
 rw[<-ZM] at S0 ⊢;have ZQ:A (h w)<=hb:=by omega
 clear ZM;refine(HM W0 hb S0).mono ?_;clear HM;rintro e q l;rcases R with ⟨made',x⟩|c|d
 ·obtain⟨L,md,or,st,rfl,ZN,hrel,-,f⟩:=l;have s:=ae (ZO.trans f.aa);have bt:=ae hrel;obtain⟨E,ZP⟩:∃E,E=(dK x).E:=⟨_,rfl⟩
  obtain⟨B,H⟩:∃B,B=(dK x).B:=⟨_,rfl⟩
  have la:=ae ZP;have ex:=ae H;rw[<-ZP,<-H];have i:=ae ((q9 q).alloc ly (N #[J I E,U B,Z Y 0 0] 47));have D:=ae (ZN.aa i ly);clear f hrel ZN ZP H;obtain⟨ZL,-,-,-,-,-,b5,b6,b7,b8,P⟩:=D.M.R;have bf5:=P 5;have bf6:=P 6;have bf7:=P 7;clear P;go_wp2_with fail;go_ret;have ZW:∀{size n:Nat} {M:TypeId} {u:ZD} {X:List ZD},(q.alloc (N #[J I E,U B,Z Y 0 0] 47)).ownsRow (A (h w)) M size u n X->81≠M->((((q.alloc (N #[J I E,U B,Z Y 0 0] 47)).setCell (Q hb 5 Y) (J I E)).setCell (Q hb 6 Y) (U B)).setCell (Q hb 7 Y) (Z Y 0 0)).ownsRow (A (h w)) M size u n X:=λhr ht=>by
   rename_i size n M u X;have K:u.ownBlock≠T hb:=λe=>by obtain⟨_,_,cs2,ZJ⟩:=aj hr hb e;exact absurd (au D.M ZJ) ht
   exact aH (aH (aH hr K _ _) K _ _) K _ _
  refine⟨hb,rfl,⟨L,md,or,st,?_,ZW D.ao (by decide),ZW D.ror (by decide),λm V hd=>ZW (D.V m V hd) (by decide),bt⟩,?_⟩;{rw[<-la.out,<-ex.out];exact aB (aB (aB D.M (j:=5) _) (j:=6) _) (j:=7) _};{exact(((s.trans (i.mono s.size)).setCell (p:=(Q hb 5 Y)) ZQ _).setCell (p:=(Q hb 6 Y)) ZQ _).setCell (p:=(Q hb 7 Y)) ZQ _}
 {obtain⟨a,k,rfl,⟨s0,s1,aq,fd,ZK,g,b⟩,f⟩:=l;have r:=ae g;have ZS:=ae b;have s:=ae (ZO.trans f.aa);clear g b f;unfold iP i8;dsimp only;have i:=ae ((q9 q).alloc ly (N #[J I 6,U ⟨#[]⟩,Z a (ZT c) k] 47));have o:=ae (ShBox.ab r (i.block _ (ai r)));obtain⟨ZL,-,-,-,-,-,-,-,-,b8,-⟩:=o.R;go_wp2_with fail;go_ret;exact⟨hb,rfl,⟨a,k,_,_,_,_,_,o,own_below ZS i ly⟩,s.trans (i.mono s.size)⟩};{obtain⟨rfl,⟨s0,s1,aq,fd,ZK,g,b⟩,f⟩:=l;have r:=ae g;have ZS:=ae b;have s:=ae (ZO.trans f.aa);clear g b f;unfold iP ja;dsimp only;have i:=ae ((q9 q).alloc ly (N #[J I 7,U d,Z Y 0 0] 47));have o:=ae (ShBox.ab r (i.block _ (ai r)));obtain⟨ZL,-,-,-,-,-,-,-,-,b8,-⟩:=o.R;go_wp2_with fail;go_ret;exact⟨hb,rfl,⟨_,_,_,_,_,o,own_below ZS i ly⟩,s.trans (i.mono s.size)⟩}
end
theorem DT (w:G)(z:Int)(x:ByteArray)(E:List ByteArray)(a:Option Addr)(n c B:Nat)(hn:n=ZT E)(hlen:n<=1000)(ho:ZV w B 9 1 (Z a n c) n (cI E)):Calls Tryz.prog 37 #[ZH #[J I z,U x,Z a n c]] w λe ZL=>∃ZM,e=ZG ZM/\sJ w ZL ⟨z,x,E⟩ ZM/\Below (A (h w)) w ZL:=by
 obtain⟨i1,aq,bt,la,fd⟩:=kG oS;have HO:=ae ho;have ZQ:=ae hn;clear ho hn;obtain⟨b,ZW⟩:∃W:G,ZU (ZU w (N #[J I z,U x,Z a n c] 47)) (N #[J I 0,U ⟨#[]⟩,Z Y 0 0] 47)=W:=⟨_,rfl⟩
 obtain⟨ZP,kP,kR,-⟩:=nb2 ZW;have ZS:=ae ZW;clear ZW;go_enter func37,ntmps37;go_upto_region 1 with fail;rw[ZS.out];clear ZS;obtain⟨-,p0,p1,p2,-⟩:=bI kP;have ex:A (h w)+1<A (h b):=ai kR.out;have H:Hid (∀V:G,(∀k,k<A (h b)->V.heap[k]?=b.heap[k]?)->V.cell? (Q (A (h w)) 0 Y)=T (J I z)/\V.cell? (Q (A (h w)) 1 Y)=T (U x)/\V.cell? (Q (A (h w)) 2 Y)=T (Z a n c)):=λV ZN=>by have e:=cq (a:=(Q (A (h w)) 0 Y)) (ZN (A (h w)) (by omega));have e1:=cq (a:=(Q (A (h w)) 1 Y)) (ZN (A (h w)) (by omega));have e2:=cq (a:=(Q (A (h w)) 2 Y)) (ZN (A (h w)) (by omega));exact⟨e.trans p0,e1.trans p1,e2.trans p2⟩
 have D:=ae (H b.drew (λk r=>rfl));refine aD (λV=>V.cell? (Q (A (h w)) 0 Y)=T (J I z)/\V.cell? (Q (A (h w)) 1 Y)=T (U x)/\V.cell? (Q (A (h w)) 2 Y)=T (Z a n c)) 9 (by kernel_rfl) ?_;clear p0 p1 p2;iterate 4
  refine aM 0 (v:=?_) rfl rfl (by kernel_rfl) (λ_ _ _ ZX=>ZX) rfl ?_ D ?_;rotate_left
  ·(rintro S ⟨s0,s1,ZJ⟩;go_simp)
   (try with_reducible rfl)
  (try simp only[Act.put,nzL])
 iterate 2
  refine aM 5 (v:=?_) rfl rfl (by kernel_rfl) (λ_ _ _ ZX=>ZX) rfl ?_ D ?_;rotate_left
  ·(rintro S ⟨s0,s1,ZJ⟩;go_simp)
   (try with_reducible rfl)
  (try simp only[Act.put,nzL])
 refine ah (i:=4) rfl (by kernel_rfl) λK l=>?_;go_simp;have AB:=ae (((q9 b).drew).alloc ly (N #[] 9));refine l _ _ (λ_=>H _ (λk r=>AB.block k r)) ?_;clear l K
 (try simp only[Act.put,nzL])
 have f:Hid (Below (A (h b)) b (ZU b (N #[] 9)).drew):=((q9 b).alloc ly _).drew;have s:Hid ((ZU b (N #[] 9)).drew.ownsRow (A (h b)) 9 1 (Z (T (Q (A (h b)) 0 Y)) 0 0) 0 []):=own_below (nE b 9 1) br.drew ly;have ZO:Hid ((ZU b (N #[] 9)).drew.ownsRow B 9 1 (Z a n c) n (cI E)):=own_below (own_below HO ZP ly) f ly;refine ah (i:=7) rfl (by kernel_rfl) λK l=>?_;obtain⟨-,⟨O,h0⟩|⟨g,cap,cur,O,-⟩⟩:=id ZO.out;focus
  have e0:E=[]:=RC.1 (ZQ.out.symm.trans h0);cases O
  subst e0;go_simp;have y:=f;obtain⟨a1,c1,ea,L⟩:∃a1 c1,(Z a1 0 c1:ZD)=Z (T (Q (A (h b)) 0 Y)) 0 0/\Hid ((ZU b (N #[] 9)).drew.ownsRow (A (h b)) 9 1 (Z a1 0 c1) 0 (cI [])):=⟨_,_,rfl,s⟩
  rw[<-ea];clear f s ZO AB ea;refine l _ _ (λ_=>H _ (λk r=>y.block k r)) ?_;generalize (ZU b (N #[] 9)).drew=P at y L ⊢
 rotate_left;focus
  cases O
  refine aQ (w:=(ZU b (N #[] 9)).drew) rfl (.tmp 7) (.tmp 9) 45 rfl (A (h b)) 9 i1 (U ⟨#[]⟩) 1 16 LZ aq bt la fd rfl (by decide) (Z (T (Q (A (h b)) 0 Y)) 0 0) 0 [] (by simp[Act.eval]) s.out (Q g 0 Y) n c (cI E) (by simp[Act.eval]) (by rw[cI,LR,<-ZQ.out,Nat.mul_one]) (λq u ZX=>ZO.cells (g:=g) rfl q u ZX) (λu X=>by rw[cI,LA] at X;obtain⟨t,_,rfl⟩:=X;rfl) (by unfold maxLen;omega) (by omega) f.size ?_;intro v1 P m C ZK;have y:Hid (Below (A (h b)) b P):=f.trans (bg (cM (A (h b)) _) C f.size (λj e=>(s.lt j e).1));rw[E4,J2] at m;have L:=ae m;obtain⟨a1,c1,rfl⟩:=jA m;clear m C ZK f s ZO AB;refine l _ _ (λ_=>H _ (λk r=>y.block k r)) ?_
 all_goals
  clear l K
  (try simp only[Act.put,nzL])
  have R:=ae (H P (λk r=>y.block k r));clear D;have D:=ae R.out;refine aM 8 (v:=?_) rfl rfl (by kernel_rfl) (λ_ _ _ ZX=>ZX) rfl ?_ D ?_;rotate_left
  ·(rintro S ⟨s0,s1,ZJ⟩;go_simp)
   (try with_reducible rfl)
  (try simp only[Act.put,nzL])
  obtain⟨rl,r0,r1,r2,M⟩:=bI ((y.block _ ex).trans kR);have rf0:=M 0;have rf1:=M 1;have rf2:=M 2;clear M;refine ah (i:=9) rfl (by kernel_rfl) λK l=>?_;go_simp;refine l _ _ (λZX=>absurd rfl ZX) ?_;clear l K D
  (try simp only[Act.put])
  refine bk (by kernel_rfl) ?_ _;go_wp2_with fail;first|refine bp (v:=ZH #[J I z,U x,Z a1 n c1]) (by simp[results,results37,go_sem,r0,r1,r2]) rfl ⟨_,rfl,⟨a1,c1,by rw[<-ZQ.out],?_⟩,?_⟩|refine bp (v:=ZH #[J I z,U x,Z a1 0 c1]) (by simp[results,results37,go_sem,r0,r1,r2]) rfl ⟨_,rfl,⟨a1,c1,by rw[<-ZQ.out],?_⟩,?_⟩
  ·show World.ownsRow _ _ _ _ _ (List.length _) _
   rw[<-ZQ.out];refine aA (aH (aH (aH L (λe=>?_) _ _) (λe=>?_) _ _) (λe=>?_) _ _) ZP.size;all_goals
    have:=(aj L _ e).1;omega
  ·exact(((ZP.trans (y.mono ZP.size)).setCell (p:=(Q (A (h w)+1) 0 Y)) (IS _) _).setCell (p:=(Q (A (h w)+1) 1 Y)) (IS _) _).setCell (p:=(Q (A (h w)+1) 2 Y)) (IS _) _
theorem pT (w:G)(r:jZ)(a:Option Addr)(c B:Nat)(f:ZV w B 9 1 (Z a (ZT r.chain) c) (ZT r.chain) (cI r.chain))(b:ZT r.chain<=1000):Calls Tryz.prog 37 #[ZH #[J I r.E,U r.B,Z a (ZT r.chain) c]] w λe i=>∃ZX,e=ZG ZX/\sJ w i r ZX/\Below (A (h w)) w i:=by obtain⟨j,l,g⟩:=r;simp only at f b ⊢;exact DT w j l g a (ZT g) c B rfl b f
theorem yU {S:Spc}{lies:List Ent->ByteArray->Out Ent}{t K:Nat}(l:∀b nm c,lies b nm=.inr (.inl c)->ZT c<=K):∀k b f g c,bS S lies t k b f g=.inr (.inl c)->ZT c<=K:=by
 intro k;induction k with
 |zero=>intro b f g c ZX;cases ZX
 |succ k i =>
  intro b f g c ZX;rw[bS] at ZX;split at ZX;{cases ZX}
  ·split at ZX;{exact i _ _ _ _ ZX}
   ·split at ZX;{exact i _ _ _ _ ZX}
    ·rename_i c' j;cases ZX
     exact l _ _ _ j
    {cases ZX}
theorem vU (S:Spc):∀n b f nm c,aL S n b f nm=.inr (.inl c)->ZT c<=ZT b+n:=by
 intro n;have g:∀b f nm c (K:Nat) (tgt:Nat->Out Ent),ZT b<=K->(∀t c,tgt t=.inr (.inl c)->ZT c<=K)->dv S tgt b f nm=.inr (.inl c)->ZT c<=K:=by
  intro b f nm c K tgt hK i ZX;unfold dv at ZX;split at ZX;{cases ZX}
  ·split at ZX
   ·cases ZX
    rw[MH];omega
   {unfold fl ec at ZX;split at ZX;{cases ZX};{split at ZX;{exact i _ _ ZX};{cases ZX}}}
 induction n with
 |zero =>intro b f nm c ZX;rw[aL] at ZX;exact g _ _ _ _ _ _ (by omega) (λt c ZX=>by cases ZX) ZX
 |succ n j =>
  intro b f nm c ZX;rw[aL] at ZX;refine g _ _ _ _ _ _ (by omega) (λt c ZX=>?_) ZX;rcases hr:bS S (aL S n (b++[nm])) t 201 f [] [] with ⟨made1,x⟩|c1|d;{rw[hr] at ZX;cases ZX}
  ·rw[hr] at ZX;cases ZX
   refine yU (λf nm2 c2 h2=>?_) _ _ _ _ _ hr;have:=j _ _ _ _ h2;rw[gB,CV] at this;omega
  {rw[hr] at ZX;cases ZX}
