/- a part of the proof in YtcefiamkoincoaaGreatFoundProof -/
import Derived.Test.YtcefiamkoincoaaGreatPk14
set_option maxRecDepth 100000
set_option maxHeartbeats 40000000
set_option linter.unusedVariables false
set_option linter.unusedSimpArgs false
namespace Go.Proofs.YtcefiamkoincoaaGreat
open Go.RowKit
def TyF (w:World) (k:Nat) (v:FrV) (a:Option Addr) (n cp:Nat) (l:List (Int × Int)):Prop:=TyR w (.slice a n cp) l∧∀ g o,a=some ⟨g,o,none⟩→v.free k g
theorem TyF.bn {w w':World}{k n cp:Nat}{v v':FrV}{a:Option Addr}{l:List (Int × Int)} (h:TyF w k v a n cp l) (hb:Bn k w v w' v'):TyF w' k v' a n cp l:=by
 obtain ⟨h1 | ⟨g,o,c,cur,hv,hg,h1,h2,h3⟩,hf⟩:=h
 ·refine ⟨.inl h1,fun g o e=>?_⟩;have:=h1.1;simp only [Value.slice.injEq] at this;rw [this.1] at e;cases e
 ·simp only [Value.slice.injEq] at hv;obtain ⟨rfl,rfl,rfl⟩:=hv;have hfr:=hf g o rfl;obtain ⟨e1,e2⟩:=hb.blk g (lt_of_block hg) hfr;refine ⟨.inr ⟨g,o,cp,cur,rfl,e1.trans hg,h1,h2,fun j x hx=>?_⟩,fun g' o' e=>?_⟩
  ·rw [World.cell?_of_block (a:=⟨g,o+j,none⟩) e1];exact h3 j x hx
  ·simp only [Option.some.injEq,Addr.mk.injEq,and_true] at e;rw [← e.1];exact e2
theorem Lo (T:List Int) (l:List (Int × Int)):∀ (k:Nat) (b:Pk.B),(Pk.takeTo T l k b).st.length≤b.st.length
 | 0,b=>Nat.le_refl _
 | k+1,b=>by
  unfold Pk.takeTo;refine Nat.le_trans (Lo T l k _) ?_;rw [(Pq _ _ _ _).2.1];unfold Pk.take
  split <;> simp
theorem Fl (w:World) (B k:Nat) (c:BnC) (v:FrV) (b:Pk.B) (a:Option Addr) (n cp:Nat) (l:List (Int × Int)) (h:BnAt w B k c v b) (hl:TyF w k v a n cp l) (hl5:l.length≤20000) :
  Calls Tryz.prog 206 #[.pointer (some ⟨k,0,none⟩),.slice a n cp] w fun e w'=>e=.returned (.tuple #[])∧∃ v',BnAt w' B k c v' (Pk.takeAll c.T l b)∧Bn k w v w' v':=by
 unfold Pk.takeAll;generalize hR:Pk.takeTo c.T l l.length b=R;have HR:=Ac hR;clear hR;obtain ⟨hn,-,-⟩:=hl.1.cap;subst hn;go_enter Tryz.func206,Tryz.ntmps206;go_wp2
 go_loopw [4] (fun s wr=>∃ (m:Nat) (v':FrV) (b':Pk.B),m≤l.length∧s=.int .i64 ((m:Int) - 1)∧Hid (Pk.takeTo c.T l m b'=R)∧BnAt wr B k c v' b'∧Bn k w v wr v')
  (fun s _=>(intOf s+1).toNat)
 case atStart=>exact ⟨l.length,v,b,Nat.le_refl _,by go_num,HR,h,Bn.refl _ _ _⟩
 case round =>
  clear HR h;obtain ⟨m,v1,b1,hm,rfl,HR,h,hG⟩:=hrel;cases m with
  | zero =>
   have HE:Hid (b1=R):=Aa HR;clear HR;go_wp2
   go_end0
   obtain rfl:=Aa HE;exact ⟨rfl,v1,h,hG⟩
  | succ m =>
   have hr:=Aa HR;rw [Pk.takeTo] at hr;have hta:=Cy wr B k c v1 b1 h;have hlF:=hl.bn hG;have hkl:=h.k_lt;have hsl:=h.sl;have hge:(0:Int)≤((m+1:Nat):Int) - 1:=by omega
   have hmm:((m+1:Nat):Int) - 1=(m:Int):=by omega
   rw [hmm];generalize hta1:(Pk.take b1).1=t at *;obtain ⟨t1,t2⟩:=t;generalize hta2:(Pk.take b1).2=b2 at *;have HTA:=Ac hta;have HRR:=Ac hr;clear hta hr HR hta1 hta2 hge hmm;go_wp2_with fail
   refine (Aa HTA).mono ?_;rintro e w1 ⟨rfl,v2,h2,hG2⟩;have hlF2:=(hlF.bn hG2);obtain ⟨g,o,rfl,hglt,hat⟩:=hlF2.1.at (by omega);obtain ⟨y0,y1⟩:=hat m (by omega);have hx:l.getD m (0,0)=l[m]:=by simp [List.getD_eq_getElem?_getD,show m < l.length by omega]
   have hr:=Aa HRR;rw [hx] at hr;generalize l[m]=x at *;obtain ⟨x1,x2⟩:=x;simp only at y0 y1;have h3:=h2.alloc (.cells #[.int .i64 t1,.int .i64 t2] 39);have hG3:=(hG.trans hG2).alloc (.cells #[.int .i64 t1,.int .i64 t2] 39);have TA:=Ad w1 (.cells #[.int .i64 t1,.int .i64 t2] 39);have p0:(w1.alloc (.cells #[.int .i64 t1,.int .i64 t2] 39)).cell? ⟨w1.heap.size,0,none⟩=some (.int .i64 t1):=(Ab TA 0).trans rfl;have p1:(w1.alloc (.cells #[.int .i64 t1,.int .i64 t2] 39)).cell? ⟨w1.heap.size,1,none⟩=some (.int .i64 t2):=(Ab TA 1).trans rfl;have k0:=Ab h3.blk 0;have k1:=Ab h3.blk 1;have lT:=lt_of_block TA;have lK:=h3.k_lt;simp at k0 k1;have z0:=(World.cell?_alloc_lt w1 (.cells #[.int .i64 t1,.int .i64 t2] 39) ⟨g,o+m * 2,none⟩ hglt).trans y0;have z1:=(World.cell?_alloc_lt w1 (.cells #[.int .i64 t1,.int .i64 t2] 39) ⟨g,o+m * 2+1,none⟩ hglt).trans y1;have lg:g < (w1.alloc (.cells #[.int .i64 t1,.int .i64 t2] 39)).heap.size:=by simp;omega
   have hfi:=Bv (ya:=c.ya) (yn:=c.yn) (yc:=c.yc) c.T c.tg c.tc t1 t2 x1 x2 (w1.alloc (.cells #[.int .i64 t1,.int .i64 t2] 39)).drew h3.tl h3.drew.tr;have hfe:Pk.fit c.T (t1,t2) (x1,x2) b2=if Tr.fitsB c.T t1 t2 x1 x2=true then b2 else ⟨b2.lo,b2.st,true⟩:=rfl
   rw [hfe] at hr;generalize Tr.fitsB c.T t1 t2 x1 x2=A at *;have HFI:=Ac hfi;have kb:(m:Int) < (l.length:Int):=by omega
   have hm0:(0:Int)≤(m:Int):=by omega
   clear hat hx hlF HRR hfi hfe y0 y1 hlF2 hG2 h2;go_wp2
   go_region_held3 (fun w'=>w'.cell? ⟨k,0,none⟩=some (.slice (some ⟨c.tg,0,none⟩) c.T.length c.tc)∧w'.cell? ⟨k,1,none⟩=some (.slice c.ya c.yn c.yc)∧w'.cell? ⟨w1.heap.size,0,none⟩=some (.int .i64 t1)∧w'.cell? ⟨w1.heap.size,1,none⟩=some (.int .i64 t2)∧w'.cell? ⟨g,o+m * 2,none⟩=some (.int .i64 x1)∧w'.cell? ⟨g,o+m * 2+1,none⟩=some (.int .i64 x2))
    (first | exact ⟨k0,k1,p0,p1,z0,z1⟩ | exact ⟨(hb7.cell lK).trans k0,(hb7.cell lK).trans k1,(hb7.cell lT).trans p0,(hb7.cell lT).trans p1,(hb7.cell lg).trans z0,(hb7.cell lg).trans z1⟩)
    (first | (go_at_call 87;refine (Aa HFI).mono ?_;rintro e w7 ⟨rfl,hb7⟩))
   have h7:=h3.drew.below hb7;have hG7:=hG3.drew.trans (Bn.of_below _ hb7);have c5:=Ab h7.blk 5;have f5:=Ag h7.blk 5;have lk7:=h7.k_lt;simp at c5;clear hb7 k0 k1 p0 p1 z0 z1 lK lT lg TA h3 hG3 HFI;cases A with
   | true =>
    have HG2:Hid (Pk.takeTo c.T l m b2=R):=by unfold Hid;rw [← hr];rfl
    clear hr;go_wp2
    go_roundw
    case rel=>exact ⟨m,v2,b2,by omega,by go_num,HG2,h7,hG7⟩
    case measure=>simp [intOf]
   | false =>
    have HG2:Hid (Pk.takeTo c.T l m ⟨b2.lo,b2.st,true⟩=R):=by unfold Hid;rw [← hr];rfl
    clear hr;have h8:=h7.brk;have hG8:=hG7.brk;go_wp2
    go_roundw
    case rel=>exact ⟨m,v2,_,by omega,by go_num,HG2,h8,hG8⟩
    case measure=>simp [intOf]
theorem Ov (w:World) (B k:Nat) (c:BnC) (v:FrV) (b:Pk.B) (a:Option Addr) (n cp:Nat) (l:List (Int × Int)) (h:BnAt w B k c v b) (hl:TyF w k v a n cp l) (hl5:b.st.length+l.length≤4000) :
  Calls Tryz.prog 208 #[.pointer (some ⟨k,0,none⟩),.slice a n cp] w fun e w'=>e=.returned (.tuple #[])∧∃ v',BnAt w' B k c v' (Pk.leaveAll c.hi l b)∧Bn k w v w' v':=by
 generalize hR:Pk.leaveAll c.hi l b=R;have HR:Hid (Pk.leaveAll c.hi (l.drop 0) b=R):=hR;clear hR;obtain ⟨hn,-,-⟩:=hl.1.cap;subst hn;go_enter Tryz.func208,Tryz.ntmps208;go_wp2
 go_loopw [8] (fun s wr=>∃ (m:Nat) (v':FrV) (b':Pk.B),m≤l.length∧s=.int .i64 (m:Int)∧b'.st.length≤b.st.length+m∧Hid (Pk.leaveAll c.hi (l.drop m) b'=R)∧BnAt wr B k c v' b'∧Bn k w v wr v')
  (fun s _=>l.length - (intOf s).toNat)
 case atStart=>exact ⟨0,v,b,by omega,rfl,by omega,HR,h,Bn.refl _ _ _⟩
 case round =>
  clear HR h;obtain ⟨m,v1,b1,hm,rfl,hbl,HR,h,hG⟩:=hrel;by_cases hmn:m < l.length
  ·have hlF:=hl.bn hG;obtain ⟨g,o,rfl,hglt,hat⟩:=hlF.1.at (by omega);obtain ⟨y0,y1⟩:=hat m hmn;have hd:l.drop m=l[m] :: l.drop (m+1):=List.drop_eq_getElem_cons hmn;have hr:=Aa HR;rw [hd,Pk.leaveAll] at hr;generalize l[m]=x at *;obtain ⟨x1,x2⟩:=x;simp only at y0 y1;have h2:=h.alloc (.cells #[.int .i64 x1,.int .i64 x2] 39);have hG2:=hG.alloc (.cells #[.int .i64 x1,.int .i64 x2] 39);have hle:=Dr _ B k c v1 b1 x1 x2 h2 (by omega);have hll:(Pk.leave c.hi (x1,x2) b1).st.length≤b.st.length+(m+1):=by unfold Pk.leave;split <;> simp <;> omega
   generalize Pk.leave c.hi (x1,x2) b1=b2 at *;have HLE:=Ac hle;have HG2:Hid (Pk.leaveAll c.hi (l.drop (m+1)) b2=R):=hr;have kb:(m:Int) < (l.length:Int):=by omega
   clear hle hr HR hd hat;go_wp2_with fail
   refine (Aa HLE).mono ?_;rintro e w1 ⟨rfl,v2,h3,hG3⟩;go_wp2
   go_roundw
   case rel=>exact ⟨m+1,v2,b2,by omega,by go_num,by omega,HG2,h3,hG2.trans hG3⟩
   case measure=>simp [intOf];omega
  ·have HE:Hid (b1=R):=by unfold Hid;rw [← Aa HR,List.drop_eq_nil_of_le (by omega),Pk.leaveAll]
   have kb:¬ (m:Int) < (l.length:Int):=by omega
   clear HR;go_wp2
   go_end0
   obtain rfl:=Aa HE;exact ⟨rfl,v1,h,hG⟩
theorem Xi (w:World) (B k:Nat) (c:BnC) (v:FrV) (b:Pk.B) (n:Nat) (h:BnAt w B k c v b) (hsl:b.st.length < 5000) :
  Calls Tryz.prog 198 #[.pointer (some ⟨k,0,none⟩),.int .i64 (n:Int)] w fun e w'=>e=.returned (.tuple #[])∧∃ v',BnAt w' B k c v' (Pk.load c.hi (n:Int) b)∧Bn k w v w' v':=by
 have hle:=fun t1 t2=>Dr w B k c v b t1 t2 h hsl;have hb:=h.blk;have hkl:=h.k_lt;have hlo:=h.lo;obtain ⟨la,ln,lc,sa,sn,sc⟩:=v;obtain ⟨lo,st,br⟩:=b;obtain ⟨xa,xc,hsh⟩:=Ae h.lo;simp only [Value.slice.injEq] at hsh;obtain ⟨rfl,hn1,rfl⟩:=hsh;subst hn1;have c2:=Ab hb 2;have c5:=Ab hb 5;have f5:=Ag hb 5;simp at c2 c5;unfold Pk.load;simp only;rw [if_neg (by omega),Int.toNat_natCast];have hn0:¬ (n:Int) < 0:=by omega
 have hll:=h.ll;simp only at hll hlo;by_cases h1:(lo.length:Int)≤(n:Int)
 ·rw [if_pos h1];clear hle hb hlo;go_enter Tryz.func198,Tryz.ntmps198;go_wp2;refine bodyPost_ret (v:=.tuple #[]) (by simp [results,Tryz.results198,go_sem]) rfl ?_;exact ⟨rfl,_,h.brk,(Bn.refl _ _ _).brk⟩
 ·rw [if_neg h1];have hq:n < lo.length:=by omega
  have hqi:(n:Int) < (lo.length:Int):=by omega
  obtain ⟨g,hg,hglt,_,hcell⟩:=Am hlo (by omega);obtain ⟨e1,e2,e3⟩:=Bd lo n hq;have y0:=(hcell (n * 2) (by omega)).trans e1;have y1:=(hcell (n * 2+1) (by omega)).trans e2;have hx:lo.getD n (0,0)=lo[n]:=by simp [List.getD_eq_getElem?_getD,hq]
  rw [hx];generalize lo[n]=x at *;obtain ⟨x1,x2⟩:=x;simp only at y0 y1 ⊢;subst hg;by_cases h2:x1=0
  ·rw [if_pos h2];have h2':(x1 == 0)=true:=by simp [h2]
   clear h2 hle hb hcell e1 e2 e3 hx h1;go_enter Tryz.func198,Tryz.ntmps198;go_wp2;refine bodyPost_ret (v:=.tuple #[]) (by simp [results,Tryz.results198,go_sem]) rfl ?_;exact ⟨rfl,_,h.brk,(Bn.refl _ _ _).brk⟩
  ·rw [if_neg h2];have h2':(x1 == 0)=false:=by simp [h2]
   have hle:=hle x1 x2;generalize Pk.leave c.hi (x1,x2) ⟨lo,st,br⟩=b2 at *;have HLE:=Ac hle;clear h2 hle hb hcell e1 e2 e3 hx h1;go_enter Tryz.func198,Tryz.ntmps198;go_wp2_with fail
   refine (Aa HLE).mono ?_;rintro e w1 ⟨rfl,v2,h3,hG3⟩;go_wp2
   go_end0
   exact ⟨rfl,v2,h3,hG3⟩
theorem BnAt.setLo {w:World}{B k:Nat}{c:BnC}{v:FrV}{b:Pk.B} (h:BnAt w B k c v b) {g ln lc q:Nat} (hg:v.lv=.slice (some ⟨g,0,none⟩) ln lc) (hq:q < b.lo.length) (t1 t2:Int) :
  BnAt ((w.setCell ⟨g,q * 2,none⟩ (.int .i64 t1)).setCell ⟨g,q * 2+1,none⟩ (.int .i64 t2)) B k c v ⟨b.lo.set q (t1,t2),b.st,b.br⟩∧Bn k w v ((w.setCell ⟨g,q * 2,none⟩ (.int .i64 t1)).setCell ⟨g,q * 2+1,none⟩ (.int .i64 t2)) v:=by
 have ho:v.lv.ownBlock=some g:=by rw [hg];rfl
 have hgk:k ≠ g:=fun e=>h.nk.1 (e ▸ ho);have hgs:v.sv.ownBlock ≠ some g:=h.ns g ho;have hgB:B≤g:=(h.lo.lt g ho).1;have hne:∀ j,j ≠ g→((w.setCell ⟨g,q * 2,none⟩ (.int .i64 t1)).setCell ⟨g,q * 2+1,none⟩ (.int .i64 t2)).heap[j]?=w.heap[j]?:=fun j hj=>(Ar hj).trans (Ar hj);have hlo:=h.lo;rw [hg] at hlo;obtain ⟨g',eg,-,-,-,-,-,-,hts⟩:=Hp hlo hq t1 t2;simp only [Option.some.injEq,Addr.mk.injEq,and_true] at eg;subst eg;have hbel:Below B w ((w.setCell ⟨g,q * 2,none⟩ (.int .i64 t1)).setCell ⟨g,q * 2+1,none⟩ (.int .i64 t2)):=((Below.refl B w).setCell (by simpa using hgB) _).setCell (by simpa using hgB) _;refine ⟨⟨(hne k hgk).trans h.blk,by rw [hg];exact hts,Bu h.st (fun j hj=>hne j (fun e=>hgs (e ▸ hj))),h.nk,h.ns,h.hB,Dt h.tr h.tB hbel,h.tB,h.tl,by simpa using h.ll,h.sl⟩,?_⟩;exact ⟨((Below.refl 0 w).setCell (by simp) _).setCell (by simp) _,fun j hj hf=>⟨hne j (fun e=>hf.2.1 (e ▸ ho)),hf⟩⟩
theorem BnAt.setSt {w:World}{B k:Nat}{c:BnC}{v:FrV}{b:Pk.B} (h:BnAt w B k c v b) {g sn sc q:Nat} (hg:v.sv=.slice (some ⟨g,0,none⟩) sn sc) (hq:q < b.st.length) (t1 t2:Int) :
  BnAt ((w.setCell ⟨g,q * 2,none⟩ (.int .i64 t1)).setCell ⟨g,q * 2+1,none⟩ (.int .i64 t2)) B k c v ⟨b.lo,b.st.set q (t1,t2),b.br⟩∧Bn k w v ((w.setCell ⟨g,q * 2,none⟩ (.int .i64 t1)).setCell ⟨g,q * 2+1,none⟩ (.int .i64 t2)) v:=by
 have ho:v.sv.ownBlock=some g:=by rw [hg];rfl
 have hgk:k ≠ g:=fun e=>h.nk.2 (e ▸ ho);have hgl:v.lv.ownBlock ≠ some g:=fun e=>h.ns g e ho;have hgB:B≤g:=(h.st.lt g ho).1;have hne:∀ j,j ≠ g→((w.setCell ⟨g,q * 2,none⟩ (.int .i64 t1)).setCell ⟨g,q * 2+1,none⟩ (.int .i64 t2)).heap[j]?=w.heap[j]?:=fun j hj=>(Ar hj).trans (Ar hj);have hst:=h.st;rw [hg] at hst;obtain ⟨g',eg,-,-,-,-,-,-,hts⟩:=Hp hst hq t1 t2;simp only [Option.some.injEq,Addr.mk.injEq,and_true] at eg;subst eg;have hbel:Below B w ((w.setCell ⟨g,q * 2,none⟩ (.int .i64 t1)).setCell ⟨g,q * 2+1,none⟩ (.int .i64 t2)):=((Below.refl B w).setCell (by simpa using hgB) _).setCell (by simpa using hgB) _;refine ⟨⟨(hne k hgk).trans h.blk,Bu h.lo (fun j hj=>hne j (fun e=>hgl (e ▸ hj))),by rw [hg];exact hts,h.nk,h.ns,h.hB,Dt h.tr h.tB hbel,h.tB,h.tl,h.ll,by simpa using h.sl⟩,?_⟩;exact ⟨((Below.refl 0 w).setCell (by simp) _).setCell (by simp) _,fun j hj hf=>⟨hne j (fun e=>hf.2.2 (e ▸ ho)),hf⟩⟩
theorem TysAt.alloc' {w:World}{b:Nat}{v:Value}{l:List (Int × Int)} (h:TysAt w b v l) (o:Obj):TysAt (w.alloc o) b v l:=Bu h (fun j hj=>Below.heap_alloc _ _ _ (h.lt j hj).2)
theorem Uk (w:World) (B k:Nat) (c:BnC) (v:FrV) (b:Pk.B) (n:Nat) (h:BnAt w B k c v b) (hn:n≤100000) :
  Calls Tryz.prog 199 #[.pointer (some ⟨k,0,none⟩),.int .i64 (n:Int)] w fun e w'=>e=.returned (.tuple #[])∧∃ v',BnAt w' B k c v' (Pk.store (n:Int) b)∧Bn k w v w' v':=by
 have hta:=Cy w B k c v b h;have hlo2:=Rk b;unfold Pk.store;rw [if_neg (by omega),Int.toNat_natCast];rw [← hlo2];generalize Pk.take b=tb at *;obtain ⟨⟨t1,t2⟩,b2⟩:=tb;simp only at hta ⊢;have HTA:=Ac hta;have hn0:¬ (n:Int) < 0:=by omega
 clear hta hlo2 h;by_cases hlen:(b2.lo.length:Int)≤(n:Int)
 ·rw [if_pos hlen];go_enter Tryz.func199,Tryz.ntmps199;go_wp2_with fail
  refine (Aa HTA).mono ?_;rintro e w1 ⟨rfl,v1,h1,hG1⟩;obtain ⟨la,ln,lc,sa,sn,sc⟩:=v1;obtain ⟨xa,xc,hsh⟩:=Ae h1.lo;simp only [Value.slice.injEq] at hsh;obtain ⟨rfl,hn1,rfl⟩:=hsh;subst hn1;have h2:=h1.alloc (.cells #[.int .i64 t1,.int .i64 t2] 39);have hG2:=hG1.alloc (.cells #[.int .i64 t1,.int .i64 t2] 39);have c2:=Ab h1.blk 2;have c5:=Ab h1.blk 5;have f5:=Ag h1.blk 5;have lk:=h1.k_lt;have hll:=h1.ll;simp at c2 c5;go_wp2;refine bodyPost_ret (v:=.tuple #[]) (by simp [results,Tryz.results199,go_sem]) rfl ?_;exact ⟨rfl,_,h1.brk.alloc _,hG1.brk.alloc _⟩
 ·rw [if_neg hlen];have hq:n < b2.lo.length:=by omega
  have hqi:(n:Int) < (b2.lo.length:Int):=by omega
  clear hlen;go_enter Tryz.func199,Tryz.ntmps199;go_wp2_with fail
  refine (Aa HTA).mono ?_;rintro e w1 ⟨rfl,v1,h1,hG1⟩;obtain ⟨la,ln,lc,sa,sn,sc⟩:=v1;obtain ⟨xa,xc,hsh⟩:=Ae h1.lo;simp only [Value.slice.injEq] at hsh;obtain ⟨rfl,hn1,rfl⟩:=hsh;subst hn1;have h2:=h1.alloc (.cells #[.int .i64 t1,.int .i64 t2] 39);have hG2:=hG1.alloc (.cells #[.int .i64 t1,.int .i64 t2] 39);have c2:=Ab h1.blk 2;have c5:=Ab h1.blk 5;have f5:=Ag h1.blk 5;have lk:=h1.k_lt;have hll:=h1.ll;simp at c2 c5;obtain ⟨g,hg,hglt,_,y0,y1,z0,z1,-⟩:=Hp h1.lo hq t1 t2;subst hg;have hS:=h1.setLo (g:=g) (ln:=b2.lo.length) (lc:=lc) (q:=n) rfl hq t1 t2;have hSA:=hS.1.alloc (.cells #[.int .i64 t1,.int .i64 t2] 39);have hsz:((w1.setCell ⟨g,n * 2,none⟩ (.int .i64 t1)).setCell ⟨g,n * 2+1,none⟩ (.int .i64 t2)).heap.size=w1.heap.size:=by simp [World.setCell]
  have TS:=Ad ((w1.setCell ⟨g,n * 2,none⟩ (.int .i64 t1)).setCell ⟨g,n * 2+1,none⟩ (.int .i64 t2)) (.cells #[.int .i64 t1,.int .i64 t2] 39);rw [hsz] at TS;have s0:(((w1.setCell ⟨g,n * 2,none⟩ (.int .i64 t1)).setCell ⟨g,n * 2+1,none⟩ (.int .i64 t2)).alloc (.cells #[.int .i64 t1,.int .i64 t2] 39)).cell? ⟨w1.heap.size,0,none⟩=some (.int .i64 t1):=(Ab TS 0).trans rfl;have s1:(((w1.setCell ⟨g,n * 2,none⟩ (.int .i64 t1)).setCell ⟨g,n * 2+1,none⟩ (.int .i64 t2)).alloc (.cells #[.int .i64 t1,.int .i64 t2] 39)).cell? ⟨w1.heap.size,1,none⟩=some (.int .i64 t2):=(Ab TS 1).trans rfl;have s2:(((w1.setCell ⟨g,n * 2,none⟩ (.int .i64 t1)).setCell ⟨g,n * 2+1,none⟩ (.int .i64 t2)).alloc (.cells #[.int .i64 t1,.int .i64 t2] 39)).cell? ⟨k,2,none⟩=some (.slice (some ⟨g,0,none⟩) b2.lo.length lc):=(Ab hSA.blk 2).trans rfl;clear hsz TS;have hgk:g ≠ k:=fun e=>h1.nk.1 (by rw [e];rfl);have hg1:g < w1.heap.size:=(h1.lo.lt g rfl).2;have TA:=Ad w1 (.cells #[.int .i64 t1,.int .i64 t2] 39);have p0:(w1.alloc (.cells #[.int .i64 t1,.int .i64 t2] 39)).cell? ⟨w1.heap.size,0,none⟩=some (.int .i64 t1):=(Ab TA 0).trans rfl;have p1:(w1.alloc (.cells #[.int .i64 t1,.int .i64 t2] 39)).cell? ⟨w1.heap.size,1,none⟩=some (.int .i64 t2):=(Ab TA 1).trans rfl;have d2:(w1.alloc (.cells #[.int .i64 t1,.int .i64 t2] 39)).cell? ⟨k,2,none⟩=some (.slice (some ⟨g,0,none⟩) b2.lo.length lc):=(Ab h2.blk 2).trans rfl;go_wp2
  go_region_held3 (fun w'=>w'.cell? ⟨k,2,none⟩=some (.slice (some ⟨g,0,none⟩) b2.lo.length lc)∧w'.cell? ⟨w1.heap.size,0,none⟩=some (.int .i64 t1)∧w'.cell? ⟨w1.heap.size,1,none⟩=some (.int .i64 t2))
   (first | exact ⟨d2,p0,p1⟩ | exact ⟨s2,s0,s1⟩)
   (fail)
  go_wp2
  go_end0
  exact ⟨rfl,_,hSA.drew,(((hG1.trans hS.2).alloc _).drew)⟩
def Pk.part (a b:Int × Int) (l:List (Int × Int)) (m:Nat):List (Int × Int):=Ck.turned a b (l.take m) ++ l.drop m
theorem Nk (a b:Int × Int) (l:List (Int × Int)):Pk.part a b l 0=l:=by simp [Pk.part,Ck.turned]
theorem Ps (a b:Int × Int) (l:List (Int × Int)):Pk.part a b l l.length=Ck.turned a b l:=by simp [Pk.part]
theorem Ks (a b:Int × Int) (l:List (Int × Int)) (m:Nat):(Pk.part a b l m).length=l.length:=by
 simp only [Pk.part,List.length_append,Bs,List.length_take,List.length_drop];omega
theorem Kw (a b:Int × Int) (l:List (Int × Int)) (m:Nat) (hm:m < l.length) (h:m < (Pk.part a b l m).length):(Pk.part a b l m)[m]=l[m]:=by
 have e:(Ck.turned a b (l.take m)).length=m:=by rw [Bs];simp;omega
 simp only [Pk.part];rw [List.getElem_append_right (by omega)];simp [e]
theorem Io (a b:Int × Int) (l:List (Int × Int)) (m:Nat) (hm:m < l.length):Pk.part a b l (m+1)=(Pk.part a b l m).set m (if l[m]=a then b else l[m]):=by
 have e:(Ck.turned a b (l.take m)).length=m:=by rw [Bs];simp;omega
 simp only [Pk.part];rw [Qt a b l m hm,List.set_append_right _ _ (by omega),e,Nat.sub_self,List.append_assoc,List.drop_eq_getElem_cons hm];rfl
theorem Mu (a b:Int × Int) (l:List (Int × Int)) (m:Nat) (hm:m < l.length) (h:l[m] ≠ a):Pk.part a b l (m+1)=Pk.part a b l m:=by
 rw [Io a b l m hm,if_neg h];have h2:m < (Pk.part a b l m).length:=by rw [Ks];exact hm
 conv=>lhs;arg 3;rw [← Kw a b l m hm h2]
 exact List.set_getElem_self h2
theorem Kz (w:World) (B k:Nat) (c:BnC) (v:FrV) (b:Pk.B) (k1 n1 k2 n2:Int) (h:BnAt w B k c v b) :
  Calls Tryz.prog 202 #[.pointer (some ⟨k,0,none⟩),.agg #[.int .i64 k1,.int .i64 n1],.agg #[.int .i64 k2,.int .i64 n2]] w fun e w'=>e=.returned (.tuple #[])∧∃ v',BnAt w' B k c v' (Pk.become (k1,n1) (k2,n2) b)∧Bn k w v w' v':=by
 obtain ⟨lo,st,br⟩:=b;unfold Pk.become;simp only;obtain ⟨la,ln,lc,sa,sn,sc⟩:=v;obtain ⟨xa,xc,hsh⟩:=Ae h.lo;simp only [Value.slice.injEq] at hsh;obtain ⟨rfl,hn1,rfl⟩:=hsh;subst hn1;obtain ⟨xa,xc,hsh⟩:=Ae h.st;simp only [Value.slice.injEq] at hsh;obtain ⟨rfl,hn1,rfl⟩:=hsh;subst hn1;have h0:=(h.alloc (.cells #[.int .i64 k1,.int .i64 n1] 39)).alloc (.cells #[.int .i64 k2,.int .i64 n2] 39);have G0:=((Bn.refl k w ⟨la,lo.length,lc,sa,st.length,sc⟩).alloc (.cells #[.int .i64 k1,.int .i64 n1] 39)).alloc (.cells #[.int .i64 k2,.int .i64 n2] 39);have O0:=Ak w (.cells #[.int .i64 k1,.int .i64 n1] 39) (.cells #[.int .i64 k2,.int .i64 n2] 39);have N0:=Ah w (.cells #[.int .i64 k1,.int .i64 n1] 39) (.cells #[.int .i64 k2,.int .i64 n2] 39);have hll:=h.ll;have hsl:=h.sl;have hkl:=h.k_lt;have hlo0:∀ g,la=some ⟨g,0,none⟩→g < w.heap.size:=fun g e=>(h.lo.lt g (by subst e;rfl)).2;have hst0:∀ g,sa=some ⟨g,0,none⟩→g < w.heap.size:=fun g e=>(h.st.lt g (by subst e;rfl)).2;have c2:=Ab h0.blk 2;simp at c2;simp only at hll hsl;go_enter Tryz.func202,Tryz.ntmps202;go_wp2
 go_loopw [15] (fun s wr=>∃ m:Nat,m≤lo.length∧s=.int .i64 (m:Int)∧BnAt wr B k c ⟨la,lo.length,lc,sa,st.length,sc⟩ ⟨Pk.part (k1,n1) (k2,n2) lo m,st,br⟩∧Bn k w ⟨la,lo.length,lc,sa,st.length,sc⟩ wr ⟨la,lo.length,lc,sa,st.length,sc⟩∧wr.heap[w.heap.size]?=some (.cells #[.int .i64 k1,.int .i64 n1] 39 (0,0))∧wr.heap[w.heap.size+1]?=some (.cells #[.int .i64 k2,.int .i64 n2] 39 (0,0)))
  (fun s _=>lo.length - (intOf s).toNat)
 case atStart=>exact ⟨0,by omega,rfl,by rw [Nk];exact h0,G0,O0,N0⟩
 case round =>
  clear h0 G0 O0 N0 c2;obtain ⟨m,hm,rfl,hb,hG,hO,hN⟩:=hrel;have lO:=lt_of_block hO;have lN:=lt_of_block hN;by_cases hmn:m < lo.length
  ·have hpl:m < (Pk.part (k1,n1) (k2,n2) lo m).length:=by rw [Ks];exact hmn
   have hg9:=Kw (k1,n1) (k2,n2) lo m hmn hpl;have hss:=Io (k1,n1) (k2,n2) lo m hmn;have hsm:=Mu (k1,n1) (k2,n2) lo m hmn;obtain ⟨g,hg,hglt,hgB,y0,y1,z0,z1,-⟩:=Hp hb.lo hpl k2 n2;subst hg;have hgw:=hlo0 g rfl;rw [hg9] at y0 y1;generalize lo[m]=x at *;obtain ⟨t1,t2⟩:=x;simp only at y0 y1;have d2:=Ab hb.blk 2;have lK:=hb.k_lt;obtain ⟨o0,o1⟩:=cl2 hO;obtain ⟨q0,q1⟩:=cl2 hN;simp at d2 o0 o1 q0 q1;have kb:(m:Int) < (lo.length:Int):=by omega
   by_cases he1:t1=k1
   ·subst he1;by_cases he2:t2=n1
    ·subst he2;rw [if_pos rfl] at hss;have hS:=hb.setLo (g:=g) (q:=m) rfl hpl k2 n2;rw [← hss] at hS;have hSA:=hS.1.alloc (.cells #[.int .i64 t1,.int .i64 t2] 39);have hsz:((wr.setCell ⟨g,m * 2,none⟩ (.int .i64 k2)).setCell ⟨g,m * 2+1,none⟩ (.int .i64 n2)).heap.size=wr.heap.size:=by simp [World.setCell]
     have hOS:((wr.setCell ⟨g,m * 2,none⟩ (.int .i64 k2)).setCell ⟨g,m * 2+1,none⟩ (.int .i64 n2)).heap[w.heap.size]?=_:=((Ar (by omega)).trans (Ar (by omega))).trans hO;have hNS:((wr.setCell ⟨g,m * 2,none⟩ (.int .i64 k2)).setCell ⟨g,m * 2+1,none⟩ (.int .i64 n2)).heap[w.heap.size+1]?=_:=((Ar (by omega)).trans (Ar (by omega))).trans hN;have a0:(wr.alloc (.cells #[.int .i64 t1,.int .i64 t2] 39)).cell? ⟨w.heap.size+1,0,none⟩=some (.int .i64 k2):=(Ab (Af hN (.cells #[.int .i64 t1,.int .i64 t2] 39)) 0).trans rfl;have a1:(wr.alloc (.cells #[.int .i64 t1,.int .i64 t2] 39)).cell? ⟨w.heap.size+1,1,none⟩=some (.int .i64 n2):=(Ab (Af hN (.cells #[.int .i64 t1,.int .i64 t2] 39)) 1).trans rfl;have a2:(wr.alloc (.cells #[.int .i64 t1,.int .i64 t2] 39)).cell? ⟨k,2,none⟩=some (.slice (some ⟨g,0,none⟩) lo.length lc):=(Ab (hb.alloc (.cells #[.int .i64 t1,.int .i64 t2] 39)).blk 2).trans rfl;have s0:(((wr.setCell ⟨g,m * 2,none⟩ (.int .i64 k2)).setCell ⟨g,m * 2+1,none⟩ (.int .i64 n2)).alloc (.cells #[.int .i64 t1,.int .i64 t2] 39)).cell? ⟨w.heap.size+1,0,none⟩=some (.int .i64 k2):=(Ab (Af hNS (.cells #[.int .i64 t1,.int .i64 t2] 39)) 0).trans rfl;have s1:(((wr.setCell ⟨g,m * 2,none⟩ (.int .i64 k2)).setCell ⟨g,m * 2+1,none⟩ (.int .i64 n2)).alloc (.cells #[.int .i64 t1,.int .i64 t2] 39)).cell? ⟨w.heap.size+1,1,none⟩=some (.int .i64 n2):=(Ab (Af hNS (.cells #[.int .i64 t1,.int .i64 t2] 39)) 1).trans rfl;have s2:(((wr.setCell ⟨g,m * 2,none⟩ (.int .i64 k2)).setCell ⟨g,m * 2+1,none⟩ (.int .i64 n2)).alloc (.cells #[.int .i64 t1,.int .i64 t2] 39)).cell? ⟨k,2,none⟩=some (.slice (some ⟨g,0,none⟩) lo.length lc):=(Ab hSA.blk 2).trans rfl;clear hss hsm hg9 hsz;go_wp2
     go_region_held3 (fun w'=>w'.cell? ⟨k,2,none⟩=some (.slice (some ⟨g,0,none⟩) lo.length lc)∧w'.cell? ⟨w.heap.size+1,0,none⟩=some (.int .i64 k2)∧w'.cell? ⟨w.heap.size+1,1,none⟩=some (.int .i64 n2)) (first | exact ⟨a2,a0,a1⟩ | exact ⟨s2,s0,s1⟩) (fail)
     go_wp2
     go_roundw
     case rel=>exact ⟨m+1,by omega,by go_num,hSA.drew,(((hG.trans hS.2).alloc _).drew),Af hOS _,Af hNS _⟩
     case measure=>simp [intOf];omega
    ·have he2':(t2 == n1)=false:=by simp [he2]
     rw [← hsm (by simp;exact he2)] at hb;have hb2:=hb.alloc (.cells #[.int .i64 t1,.int .i64 t2] 39);have hO2:=Af hO (.cells #[.int .i64 t1,.int .i64 t2] 39);have hN2:=Af hN (.cells #[.int .i64 t1,.int .i64 t2] 39);clear hss hsm hg9 he2;go_wp2
     go_roundw
     case rel=>exact ⟨m+1,by omega,by go_num,hb2,hG.alloc _,hO2,hN2⟩
     case measure=>simp [intOf];omega
   ·have he1':(t1 == k1)=false:=by simp [he1]
    rw [← hsm (by simp;intro e;exact absurd e he1)] at hb;have hb2:=hb.alloc (.cells #[.int .i64 t1,.int .i64 t2] 39);have hO2:=Af hO (.cells #[.int .i64 t1,.int .i64 t2] 39);have hN2:=Af hN (.cells #[.int .i64 t1,.int .i64 t2] 39);clear hss hsm hg9 he1;go_wp2
    go_roundw
    case rel=>exact ⟨m+1,by omega,by go_num,hb2,hG.alloc _,hO2,hN2⟩
    case measure=>simp [intOf];omega
  ·obtain rfl:m=lo.length:=by omega
   rw [Ps] at hb;have kb:¬ (lo.length:Int) < (lo.length:Int):=by omega
   have c2:=Ab hb.blk 3;simp at c2;have h0:=hb;have G0:=hG;have O0:=hO;have N0:=hN;clear hb hG hO hN lO lN;go_wp2
   go_loopw [36] (fun s wr=>∃ m:Nat,m≤st.length∧s=.int .i64 (m:Int)∧BnAt wr B k c ⟨la,lo.length,lc,sa,st.length,sc⟩ ⟨Ck.turned (k1,n1) (k2,n2) lo,Pk.part (k1,n1) (k2,n2) st m,br⟩∧Bn k w ⟨la,lo.length,lc,sa,st.length,sc⟩ wr ⟨la,lo.length,lc,sa,st.length,sc⟩∧wr.heap[w.heap.size]?=some (.cells #[.int .i64 k1,.int .i64 n1] 39 (0,0))∧wr.heap[w.heap.size+1]?=some (.cells #[.int .i64 k2,.int .i64 n2] 39 (0,0)))
    (fun s _=>st.length - (intOf s).toNat)
   case atStart=>exact ⟨0,by omega,rfl,by rw [Nk];exact h0,G0,O0,N0⟩
   case round =>
    clear h0 G0 O0 N0 c2;obtain ⟨m,hm,rfl,hb,hG,hO,hN⟩:=hrel;have lO:=lt_of_block hO;have lN:=lt_of_block hN;by_cases hmn:m < st.length
    ·have hpl:m < (Pk.part (k1,n1) (k2,n2) st m).length:=by rw [Ks];exact hmn
     have hg9:=Kw (k1,n1) (k2,n2) st m hmn hpl;have hss:=Io (k1,n1) (k2,n2) st m hmn;have hsm:=Mu (k1,n1) (k2,n2) st m hmn;obtain ⟨g,hg,hglt,hgB,y0,y1,z0,z1,-⟩:=Hp hb.st hpl k2 n2;subst hg;have hgw:=hst0 g rfl;rw [hg9] at y0 y1;generalize st[m]=x at *;obtain ⟨t1,t2⟩:=x;simp only at y0 y1;have d2:=Ab hb.blk 3;have lK:=hb.k_lt;obtain ⟨o0,o1⟩:=cl2 hO;obtain ⟨q0,q1⟩:=cl2 hN;simp at d2 o0 o1 q0 q1;have kb:(m:Int) < (st.length:Int):=by omega
     by_cases he1:t1=k1
     ·subst he1;by_cases he2:t2=n1
      ·subst he2;rw [if_pos rfl] at hss;have hS:=hb.setSt (g:=g) (q:=m) rfl hpl k2 n2;rw [← hss] at hS;have hSA:=hS.1.alloc (.cells #[.int .i64 t1,.int .i64 t2] 39);have hsz:((wr.setCell ⟨g,m * 2,none⟩ (.int .i64 k2)).setCell ⟨g,m * 2+1,none⟩ (.int .i64 n2)).heap.size=wr.heap.size:=by simp [World.setCell]
       have hOS:((wr.setCell ⟨g,m * 2,none⟩ (.int .i64 k2)).setCell ⟨g,m * 2+1,none⟩ (.int .i64 n2)).heap[w.heap.size]?=_:=((Ar (by omega)).trans (Ar (by omega))).trans hO;have hNS:((wr.setCell ⟨g,m * 2,none⟩ (.int .i64 k2)).setCell ⟨g,m * 2+1,none⟩ (.int .i64 n2)).heap[w.heap.size+1]?=_:=((Ar (by omega)).trans (Ar (by omega))).trans hN;have a0:(wr.alloc (.cells #[.int .i64 t1,.int .i64 t2] 39)).cell? ⟨w.heap.size+1,0,none⟩=some (.int .i64 k2):=(Ab (Af hN (.cells #[.int .i64 t1,.int .i64 t2] 39)) 0).trans rfl;have a1:(wr.alloc (.cells #[.int .i64 t1,.int .i64 t2] 39)).cell? ⟨w.heap.size+1,1,none⟩=some (.int .i64 n2):=(Ab (Af hN (.cells #[.int .i64 t1,.int .i64 t2] 39)) 1).trans rfl;have a2:(wr.alloc (.cells #[.int .i64 t1,.int .i64 t2] 39)).cell? ⟨k,3,none⟩=some (.slice (some ⟨g,0,none⟩) st.length sc):=(Ab (hb.alloc (.cells #[.int .i64 t1,.int .i64 t2] 39)).blk 3).trans rfl;have s0:(((wr.setCell ⟨g,m * 2,none⟩ (.int .i64 k2)).setCell ⟨g,m * 2+1,none⟩ (.int .i64 n2)).alloc (.cells #[.int .i64 t1,.int .i64 t2] 39)).cell? ⟨w.heap.size+1,0,none⟩=some (.int .i64 k2):=(Ab (Af hNS (.cells #[.int .i64 t1,.int .i64 t2] 39)) 0).trans rfl;have s1:(((wr.setCell ⟨g,m * 2,none⟩ (.int .i64 k2)).setCell ⟨g,m * 2+1,none⟩ (.int .i64 n2)).alloc (.cells #[.int .i64 t1,.int .i64 t2] 39)).cell? ⟨w.heap.size+1,1,none⟩=some (.int .i64 n2):=(Ab (Af hNS (.cells #[.int .i64 t1,.int .i64 t2] 39)) 1).trans rfl;have s2:(((wr.setCell ⟨g,m * 2,none⟩ (.int .i64 k2)).setCell ⟨g,m * 2+1,none⟩ (.int .i64 n2)).alloc (.cells #[.int .i64 t1,.int .i64 t2] 39)).cell? ⟨k,3,none⟩=some (.slice (some ⟨g,0,none⟩) st.length sc):=(Ab hSA.blk 3).trans rfl;clear hss hsm hg9 hsz;go_wp2
       go_region_held3 (fun w'=>w'.cell? ⟨k,3,none⟩=some (.slice (some ⟨g,0,none⟩) st.length sc)∧w'.cell? ⟨w.heap.size+1,0,none⟩=some (.int .i64 k2)∧w'.cell? ⟨w.heap.size+1,1,none⟩=some (.int .i64 n2)) (first | exact ⟨a2,a0,a1⟩ | exact ⟨s2,s0,s1⟩) (fail)
       go_wp2
       go_roundw
       case rel=>exact ⟨m+1,by omega,by go_num,hSA.drew,(((hG.trans hS.2).alloc _).drew),Af hOS _,Af hNS _⟩
       case measure=>simp [intOf];omega
      ·have he2':(t2 == n1)=false:=by simp [he2]
       rw [← hsm (by simp;exact he2)] at hb;have hb2:=hb.alloc (.cells #[.int .i64 t1,.int .i64 t2] 39);have hO2:=Af hO (.cells #[.int .i64 t1,.int .i64 t2] 39);have hN2:=Af hN (.cells #[.int .i64 t1,.int .i64 t2] 39);clear hss hsm hg9 he2;go_wp2
       go_roundw
       case rel=>exact ⟨m+1,by omega,by go_num,hb2,hG.alloc _,hO2,hN2⟩
       case measure=>simp [intOf];omega
     ·have he1':(t1 == k1)=false:=by simp [he1]
      rw [← hsm (by simp;intro e;exact absurd e he1)] at hb;have hb2:=hb.alloc (.cells #[.int .i64 t1,.int .i64 t2] 39);have hO2:=Af hO (.cells #[.int .i64 t1,.int .i64 t2] 39);have hN2:=Af hN (.cells #[.int .i64 t1,.int .i64 t2] 39);clear hss hsm hg9 he1;go_wp2
      go_roundw
      case rel=>exact ⟨m+1,by omega,by go_num,hb2,hG.alloc _,hO2,hN2⟩
      case measure=>simp [intOf];omega
    ·obtain rfl:m=st.length:=by omega
     rw [Ps] at hb;have kb:¬ (st.length:Int) < (st.length:Int):=by omega
     clear lO lN;go_wp2
     go_end0
     exact ⟨rfl,_,hb,hG⟩
theorem Cl (w:World) (B k:Nat) (c:BnC) (v:FrV) (b:Pk.B) (h:BnAt w B k c v b) :
  Calls Tryz.prog 209 #[.pointer (some ⟨k,0,none⟩)] w fun e w'=>∃ u:FrV,e=.returned (.tuple #[u.val,.bool (Pk.out b).isSome])∧(∀ y,Pk.out b=some y→u=v∧y=⟨b.lo,b.st⟩)∧BnAt w' B k c v b∧Bn k w v w' v:=by
 have hkl:=h.k_lt;have hBl:=h.B_le;have hnew:=h.new (Nat.le_refl _);have c2:=Ab h.blk 2;have c3:=Ab h.blk 3;have c5:=Ab h.blk 5;simp at c2 c3 c5;obtain ⟨lo,st,br⟩:=b;obtain ⟨la,ln,lc,sa,sn,sc⟩:=v;simp only at c2 c3 c5;have R0:=Ad w (.cells #[.slice none 0 0,.slice none 0 0] 150);cases br with
 | true =>
  rw [Hk rfl];go_enter Tryz.func209,Tryz.ntmps209;go_wp2;refine bodyPost_ret (v:=.tuple #[.agg #[.slice none 0 0,.slice none 0 0],.bool false]) (by simp [results,Tryz.results209,go_sem]) rfl ?_;exact ⟨⟨none,0,0,none,0,0⟩,rfl,fun y hy=>by simp at hy,h.alloc _,(Bn.refl _ _ _).alloc _⟩
 | false =>
  rw [Aap rfl];have a2:(w.alloc (.cells #[.slice none 0 0,.slice none 0 0] 150)).cell? ⟨k,2,none⟩=some (.slice la ln lc):=(Ab (h.alloc (.cells #[.slice none 0 0,.slice none 0 0] 150)).blk 2).trans rfl;have a3:(w.alloc (.cells #[.slice none 0 0,.slice none 0 0] 150)).cell? ⟨k,3,none⟩=some (.slice sa sn sc):=(Ab (h.alloc (.cells #[.slice none 0 0,.slice none 0 0] 150)).blk 3).trans rfl;have b2:(w.alloc (.cells #[.slice la ln lc,.slice sa sn sc] 150)).cell? ⟨k,2,none⟩=some (.slice la ln lc):=(Ab (h.alloc (.cells #[.slice la ln lc,.slice sa sn sc] 150)).blk 2).trans rfl;have b3:(w.alloc (.cells #[.slice la ln lc,.slice sa sn sc] 150)).cell? ⟨k,3,none⟩=some (.slice sa sn sc):=(Ab (h.alloc (.cells #[.slice la ln lc,.slice sa sn sc] 150)).blk 3).trans rfl;go_enter Tryz.func209,Tryz.ntmps209;go_wp2
  go_region_held3 (fun w'=>w'.cell? ⟨k,2,none⟩=some (.slice la ln lc)∧w'.cell? ⟨k,3,none⟩=some (.slice sa sn sc)) (first | exact ⟨a2,a3⟩ | exact ⟨b2,b3⟩) (fail)
  go_wp2;refine bodyPost_ret (v:=.tuple #[.agg #[.slice la ln lc,.slice sa sn sc],.bool true]) (by simp [results,Tryz.results209,go_sem]) rfl ?_;exact ⟨⟨la,ln,lc,sa,sn,sc⟩,rfl,fun y hy=>⟨rfl,(Option.some.inj hy).symm⟩,(h.alloc _).drew,((Bn.refl _ _ _).alloc _).drew⟩
theorem Mf (l:List (Int × Int)) (a:Option Addr) (n cp:Nat) (w:World) (hl:l.length≤10000) (h:TyR w (.slice a n cp) l) :
  Calls Tryz.prog 238 #[.slice a n cp] w fun e w'=>∃ va vc,e=.returned (.slice va l.length vc)∧TysAt w' w.heap.size (.slice va l.length vc) l∧Below w.heap.size w w':=by
 go_enter Tryz.func238,Tryz.ntmps238;go_wp2_with (at_builtin;refine El rfl _ _ rfl w.heap.size _ [] l a n cp rfl (World.ownsRow_nil _ _ _ _) rfl h (by simp;omega) (Nat.le_refl _) ?_)
 intro v' w2 hown2 hgrow;obtain ⟨va,vc,rfl⟩:=Ae hown2;go_wp2;go_ret;exact ⟨va,vc,rfl,hown2,(Below.refl _ _).grown hgrow (Nat.le_refl _) (fun j hj=>by cases hj)⟩
theorem Yj {w:World}{k1 k2:Nat}{a1 a2 b1 b2:Option Addr}{m1 d1 m2 d2 m3 d3 m4 d4:Nat}{t1 t2:TypeId} (hT:w.heap[k1]?=some (.cells #[.slice a1 m1 d1,.slice a2 m2 d2] t1 (0,0))) (hX:w.heap[k2]?=some (.cells #[.slice b1 m3 d3,.slice b2 m4 d4] t2 (0,0))) :
  w.cell? ⟨k1,0,none⟩=some (.slice a1 m1 d1)∧w.cell? ⟨k1,1,none⟩=some (.slice a2 m2 d2)∧w.cell? ⟨k2,0,none⟩=some (.slice b1 m3 d3)∧w.cell? ⟨k2,1,none⟩=some (.slice b2 m4 d4):=by
 refine ⟨?_,?_,?_,?_⟩
 ·rw [Ab hT];rfl
 ·rw [Ab hT];rfl
 ·rw [Ab hX];rfl
 ·rw [Ab hX];rfl
theorem Bf {b b' size n:Nat}{t:TypeId}{v:Value}{xs:List Value}{w:World} (h:w.ownsRow b t size v n xs) (hb:b'≤b):w.ownsRow b' t size v n xs:=by
 obtain ⟨e1,e2 | ⟨g,cap,cur,a,c,d,r⟩⟩:=h
 ·exact ⟨e1,.inl e2⟩
 ·exact ⟨e1,.inr ⟨g,cap,cur,a,Nat.le_trans hb c,d,r⟩⟩
theorem O5 (c:BnC) (v:FrV) (x:Ck.Fr) (w:World) (hx:v.is x w) :
  Calls Tryz.prog 197 #[.agg #[.slice (some ⟨c.tg,0,none⟩) c.T.length c.tc,.slice c.ya c.yn c.yc],v.val,.int .i64 c.hi] w fun e w'=>∃ u:FrV,
   e=.returned (.agg #[.slice (some ⟨c.tg,0,none⟩) c.T.length c.tc,.slice c.ya c.yn c.yc,.slice u.la u.ln u.lc,.slice u.sa u.sn u.sc,.int .i64 c.hi,.bool false]) ∧
   TysAt w' w.heap.size u.lv x.locals∧TysAt w' w.heap.size u.sv x.stack∧(∀ j,u.lv.ownBlock=some j→u.sv.ownBlock ≠ some j)∧Below w.heap.size w w':=by
 have hC1:=fun w' (h:Below w.heap.size w w')=>Mf x.locals v.la v.ln v.lc w' (by have:=hx.hl;omega) (hx.lo.below h);have hC2:=fun w' (h:Below w.heap.size w w')=>Mf x.stack v.sa v.sn v.sc w' (by have:=hx.hs;omega) (hx.st.below h);obtain ⟨la,ln,lc,sa,sn,sc⟩:=v;simp only [FrV.val] at hC1 hC2 ⊢;have HC1:=Ac hC1;have HC2:=Ac hC2;clear hC1 hC2 hx;have hB0:=Ba w (.cells #[.slice (some ⟨c.tg,0,none⟩) c.T.length c.tc,.slice c.ya c.yn c.yc] 89) (.cells #[.slice la ln lc,.slice sa sn sc] 150) (.cells #[.slice none 0 0,.slice none 0 0,.slice none 0 0,.slice none 0 0,.int .i64 0,.bool false] 290);obtain ⟨T0,X0,Z0⟩:=Eo w (.cells #[.slice (some ⟨c.tg,0,none⟩) c.T.length c.tc,.slice c.ya c.yn c.yc] 89) (.cells #[.slice la ln lc,.slice sa sn sc] 150) (.cells #[.slice none 0 0,.slice none 0 0,.slice none 0 0,.slice none 0 0,.int .i64 0,.bool false] 290);have t0:(((w.alloc (.cells #[.slice (some ⟨c.tg,0,none⟩) c.T.length c.tc,.slice c.ya c.yn c.yc] 89)).alloc (.cells #[.slice la ln lc,.slice sa sn sc] 150)).alloc (.cells #[.slice none 0 0,.slice none 0 0,.slice none 0 0,.slice none 0 0,.int .i64 0,.bool false] 290)).cell? ⟨w.heap.size,0,none⟩=some (.slice (some ⟨c.tg,0,none⟩) c.T.length c.tc):=(Ab T0 0).trans rfl;have t1:(((w.alloc (.cells #[.slice (some ⟨c.tg,0,none⟩) c.T.length c.tc,.slice c.ya c.yn c.yc] 89)).alloc (.cells #[.slice la ln lc,.slice sa sn sc] 150)).alloc (.cells #[.slice none 0 0,.slice none 0 0,.slice none 0 0,.slice none 0 0,.int .i64 0,.bool false] 290)).cell? ⟨w.heap.size,1,none⟩=some (.slice c.ya c.yn c.yc):=(Ab T0 1).trans rfl;have x0:(((w.alloc (.cells #[.slice (some ⟨c.tg,0,none⟩) c.T.length c.tc,.slice c.ya c.yn c.yc] 89)).alloc (.cells #[.slice la ln lc,.slice sa sn sc] 150)).alloc (.cells #[.slice none 0 0,.slice none 0 0,.slice none 0 0,.slice none 0 0,.int .i64 0,.bool false] 290)).cell? ⟨w.heap.size+1,0,none⟩=some (.slice la ln lc):=(Ab X0 0).trans rfl;have x1:(((w.alloc (.cells #[.slice (some ⟨c.tg,0,none⟩) c.T.length c.tc,.slice c.ya c.yn c.yc] 89)).alloc (.cells #[.slice la ln lc,.slice sa sn sc] 150)).alloc (.cells #[.slice none 0 0,.slice none 0 0,.slice none 0 0,.slice none 0 0,.int .i64 0,.bool false] 290)).cell? ⟨w.heap.size+1,1,none⟩=some (.slice sa sn sc):=(Ab X0 1).trans rfl;have lT:=lt_of_block T0;have lX:=lt_of_block X0;go_enter Tryz.func197,Tryz.ntmps197;go_wp2
 go_region_held3 (fun w'=>w'.cell? ⟨w.heap.size,0,none⟩=some (.slice (some ⟨c.tg,0,none⟩) c.T.length c.tc)∧w'.cell? ⟨w.heap.size,1,none⟩=some (.slice c.ya c.yn c.yc)∧w'.cell? ⟨w.heap.size+1,0,none⟩=some (.slice la ln lc)∧w'.cell? ⟨w.heap.size+1,1,none⟩=some (.slice sa sn sc))
  (exact Yj (by repeat (first | (with_reducible refine (Ar (by omega)).trans ?_) | (with_reducible refine stay hb5 ?_) | (with_reducible refine stay hb6 ?_) | exact T0)) (by repeat (first | (with_reducible refine (Ar (by omega)).trans ?_) | (with_reducible refine stay hb5 ?_) | (with_reducible refine stay hb6 ?_) | exact X0)))
  (first | (go_at_call 238;refine (Aa HC1 _ (by first | exact hB0.drew | exact hBs)).mono ?_;rintro e w5 ⟨va1,vc1,rfl,ht5,hb5⟩;have hBl:Below w.heap.size w w5:=(fun hP=>Below.trans hP (hb5.mono (Below.size hP))) (by first | exact hB0.drew | exact hBs);have Zl:=stay hb5 (by first | exact Z0 | exact Zs);have z0:=Ab Zl 0;have q0:=Ag Zl 0;have z1:=Ab Zl 1;have q1:=Ag Zl 1;have z2:=Ab Zl 2;have q2:=Ag Zl 2;have z3:=Ab Zl 3;have q3:=Ag Zl 3;have z4:=Ab Zl 4;have q4:=Ag Zl 4;have z5:=Ab Zl 5;have q5:=Ag Zl 5;simp at z0 z1 z2 z3 z4 z5) | (go_at_call 238;refine (Aa HC2 _ (by first | exact hB0.drew | exact hBl)).mono ?_;rintro e w6 ⟨va2,vc2,rfl,ht6,hb6⟩;have hBs:Below w.heap.size w w6:=(fun hP=>Below.trans hP (hb6.mono (Below.size hP))) (by first | exact hB0.drew | exact hBl);have Zs:=stay hb6 (by first | exact Z0 | exact Zl);have z0:=Ab Zs 0;have q0:=Ag Zs 0;have z1:=Ab Zs 1;have q1:=Ag Zs 1;have z2:=Ab Zs 2;have q2:=Ag Zs 2;have z3:=Ab Zs 3;have q3:=Ag Zs 3;have z4:=Ab Zs 4;have q4:=Ag Zs 4;have z5:=Ab Zs 5;have q5:=Ag Zs 5;simp at z0 z1 z2 z3 z4 z5))
 have hz5:∀ j,(Value.slice va1 x.locals.length vc1).ownBlock=some j→w.heap.size+3≤j∧j < w5.heap.size:=fun j hj=>by
  have:=ht5.lt j hj;simp at this;omega
 have hz6:∀ j,(Value.slice va2 x.stack.length vc2).ownBlock=some j→w5.heap.size≤j:=fun j hj=>(ht6.lt j hj).1;have hs5:=hBl.size;have lZ:=lt_of_block Zl;have lr:=lt_of_block Zs;go_wp2_with fail
 refine bodyPost_ret (v:=.agg #[.slice (some ⟨c.tg,0,none⟩) c.T.length c.tc,.slice c.ya c.yn c.yc,.slice va1 x.locals.length vc1,.slice va2 x.stack.length vc2,.int .i64 c.hi,.bool false]) (by simp [results,Tryz.results197,go_sem,z0,z1,z2,z3,z4,z5]) rfl ?_;refine ⟨⟨va1,x.locals.length,vc1,va2,x.stack.length,vc2⟩,rfl,?_,?_,fun j hj hj'=>?_,?_⟩
 ·refine Bu (Bf (Bu ht5 (fun j hj=>hb6.block j (hz5 j hj).2)) (by simp;omega)) (fun j hj=>?_);have:=hz5 j hj
  repeat (with_reducible refine (Ar (by omega)).trans ?_)
  rfl
 ·refine Bu (Bf ht6 hs5) (fun j hj=>?_);have:=hz6 j hj
  repeat (with_reducible refine (Ar (by omega)).trans ?_)
  rfl
 ·have:=hz5 j hj;have:=hz6 j hj';omega
 ·repeat (with_reducible refine Below.setCell ?_ (by simp;omega) _)
  exact hBs
theorem Fw (w:World):Calls Tryz.prog 241 #[] w fun e w'=>e=.returned (.agg #[.int .i64 1,.int .i64 0])∧Below w.heap.size w w':=by
 go_enter Tryz.func241,Tryz.ntmps241;go_wp2;refine bodyPost_ret (v:=.agg #[.int .i64 1,.int .i64 0]) (by simp [results,Tryz.results241,go_sem]) rfl ?_;exact ⟨rfl,by repeat (first | refine Below.setCell ?_ (by simp) _ | refine Below.alloc ?_ (by simp) _ | exact Below.refl _ _)⟩
theorem Uz (w:World):Calls Tryz.prog 245 #[] w fun e w'=>e=.returned (.agg #[.int .i64 2,.int .i64 0])∧Below w.heap.size w w':=by
 go_enter Tryz.func245,Tryz.ntmps245;go_wp2;refine bodyPost_ret (v:=.agg #[.int .i64 2,.int .i64 0]) (by simp [results,Tryz.results245,go_sem]) rfl ?_;exact ⟨rfl,by repeat (first | refine Below.setCell ?_ (by simp) _ | refine Below.alloc ?_ (by simp) _ | exact Below.refl _ _)⟩
theorem Cw (c:Int) (w:World):Calls Tryz.prog 123 #[.int .i64 c] w fun e w'=>e=.returned (.agg #[.int .i64 3,.int .i64 c])∧Below w.heap.size w w':=by
 go_enter Tryz.func123,Tryz.ntmps123;go_wp2;refine bodyPost_ret (v:=.agg #[.int .i64 3,.int .i64 c]) (by simp [results,Tryz.results123,go_sem]) rfl ?_;exact ⟨rfl,by repeat (first | refine Below.setCell ?_ (by simp) _ | refine Below.alloc ?_ (by simp) _ | exact Below.refl _ _)⟩
theorem Po (c:Int) (w:World):Calls Tryz.prog 203 #[.int .i64 c] w fun e w'=>e=.returned (.agg #[.int .i64 4,.int .i64 c])∧Below w.heap.size w w':=by
 go_enter Tryz.func203,Tryz.ntmps203;go_wp2;refine bodyPost_ret (v:=.agg #[.int .i64 4,.int .i64 c]) (by simp [results,Tryz.results203,go_sem]) rfl ?_;exact ⟨rfl,by repeat (first | refine Below.setCell ?_ (by simp) _ | refine Below.alloc ?_ (by simp) _ | exact Below.refl _ _)⟩
def Ss (a:Option Addr) (n B:Nat):Prop:=∀ g o,a=some ⟨g,o,none⟩→n≤g∨g < B
theorem L9 (m:PM) (w:World):Calls Tryz.prog 244 #[m.val] w fun e w'=>∃ a c,e=.returned (.slice a (Ck.gives (m.r1,m.r2)).length c)∧TyR w' (.slice a (Ck.gives (m.r1,m.r2)).length c) (Ck.gives (m.r1,m.r2))∧Ss a w.heap.size 0∧Below w.heap.size w w':=by
 obtain ⟨cl,nm,pa,pl,pc,r1,r2,lo,st,ca,cn,cc,ha,hl,hc,ma,ml,mc⟩:=m;simp only [PM.val];unfold Ck.gives;by_cases h:r1=0
 ·subst h;simp only [if_true];go_enter Tryz.func244,Tryz.ntmps244;go_wp2;go_ret;exact ⟨none,0,rfl,TyR.nil _,fun g o e=>(by cases e),(Below.refl _ _).alloc (Nat.le_refl _) _⟩
 ·have h':(r1 == 0)=false:=by simp [h]
  simp only [h,if_false];have hB:=Aj w (.cells #[.int .i64 cl,.int .i64 nm,.slice pa pl pc,.int .i64 r1,.int .i64 r2,.int .i64 lo,.int .i64 st,.slice ca cn cc,.slice ha hl hc,.slice ma ml mc] 94) (.cells #[.int .i64 r1,.int .i64 r2] 39);have hT:=TyR.new1 (w.alloc (.cells #[.int .i64 cl,.int .i64 nm,.slice pa pl pc,.int .i64 r1,.int .i64 r2,.int .i64 lo,.int .i64 st,.slice ca cn cc,.slice ha hl hc,.slice ma ml mc] 94)) r1 r2;clear h;go_enter Tryz.func244,Tryz.ntmps244;go_wp2;go_ret;exact ⟨some ⟨w.heap.size+1,0,none⟩,1,rfl,by simpa using hT,fun g o e=>(by simp at e;omega),hB⟩
structure Ru (b:PBd) (w:World) (bb:Nat) (lm:List (Rd.Mth × MthV)) (fl:List (Value × List (Int × Int))):Prop where
 ml:b.fl2=lm.length
 m6:lm.length≤1000
 ms:MthsIn w bb (.slice b.fa2 b.fl2 b.fc2) lm
 yl:b.yn=fl.length
 y14:fl.length≤14
 yf:∀ p∈fl,p.2.length≤1000
 fs:FldsIn w bb (.slice b.ya b.yn b.yc) fl
 tl:b.T.length≤1000
 tr:TreeIn w b.tg b.T
 ll:b.L.length≤100000
 ins:InsAt w bb (.slice b.la b.L.length b.lc) b.L
theorem Ru.below {b:PBd}{w w':World}{bb:Nat}{lm:List (Rd.Mth × MthV)}{fl:List (Value × List (Int × Int))} (h:Ru b w bb lm fl) (hb:Below w.heap.size w w'):Ru b w' bb lm fl :=
 ⟨h.ml,h.m6,h.ms.kp (Kp.of_below (e:=none) hb) (by decide) (by decide) (by decide) (by decide) (by decide),h.yl,h.y14,h.yf,h.fs.below hb,h.tl,h.tr.below hb,h.ll,h.ins.kp (Kp.of_below (e:=none) hb) (by decide)⟩
theorem MthsIn.mth2 {w:World}{b:Nat}{a:Option Addr}{n c:Nat}{l:List (Rd.Mth × MthV)} (h:MthsIn w b (.slice a n c) l) {k:Nat} (hk:k < l.length) :
  ∃ (m:PM) (g:Nat),a=some ⟨g,0,none⟩∧g < w.heap.size∧(∀ j v,m.list[j]?=some v→w.cell? ⟨g,k * 10+j,none⟩=some v)∧m.is l[k].1 w b∧(.slice m.pa m.pl m.pc:Value)=l[k].2.params:=by
 obtain ⟨hrow,hall⟩:=h;obtain ⟨xa,xc,hsh⟩:=Ae hrow;simp only [Value.slice.injEq] at hsh;obtain ⟨rfl,rfl,rfl⟩:=hsh;obtain ⟨g,hg,hglt,_,hcell⟩:=Am hrow (by omega);obtain ⟨hp,hc,hh,lm,hlm,hm⟩:=hall _ (List.getElem_mem hk);have hat:=fun j hj=>Xy l k hk j hj;generalize l[k]=x at *;obtain ⟨x,u⟩:=x;obtain ⟨up,uc,uh,um⟩:=u;simp only at hp hc hh hm hat;obtain ⟨pa,pc,rfl⟩:=Ae hp;obtain ⟨ca,cc,rfl⟩:=Ae hc;obtain ⟨ha,hc',rfl⟩:=Ae hh;obtain ⟨ma,mc,rfl⟩:=Ae hm.1;have hml:lm.length=x.maps.length:=by rw [← hlm];simp
 refine ⟨⟨x.cl,x.name,pa,x.params.length,pc,x.result.1,x.result.2,x.locals,x.stack,ca,x.code.length,cc,ha,x.handlers.length,hc',ma,lm.length,mc⟩,g,hg,hglt,?_,⟨rfl,rfl,rfl,rfl,rfl,rfl,rfl,hp,rfl,hc,rfl,hh,hml,lm,hlm,hm⟩,rfl⟩;intro j v hv;have hj:j < 10:=by
  have:=(List.getElem?_eq_some_iff.1 hv).1
  simpa [PM.list] using this
 obtain ⟨e1,e2⟩:=hat j hj;rw [hcell _ e2,e1,← hv];rfl
theorem Lg (b:PBd) (bb:Nat) (lm:List (Rd.Mth × MthV)) (fl:List (Value × List (Int × Int))) (n:Nat) (w:World) (h:Ru b w bb lm fl) (hn:n < lm.length) :
  Calls Tryz.prog 243 #[b.val,.int .i64 (n:Int)] w fun e w'=>∃ m:PM,e=.returned m.val∧m.is lm[n].1 w' bb∧(.slice m.pa m.pl m.pc:Value)=lm[n].2.params∧Below w.heap.size w w':=by
 obtain ⟨q,g,hg,hglt,Bb,hq,hqp⟩:=h.ms.mth2 hn;obtain ⟨y0,y1,y2,y3,y4,y5,y6,y7,y8,y9⟩:=Gz Bb;have hml:=h.ml;have hyl:=h.yl;obtain ⟨fa1,fl1,fc1,fa2,fl2,fc2,tg,tc,ya,yn,yc,cl,nm,pa,pl,pc,r1,r2,lo,st,ca,cn,cc,ha,hl,hc,ma,ml,mc,la,lc,T,L⟩:=b;simp only at hml hyl hg;subst hml hyl hg;simp only [PBd.val];generalize lm[n]=x at *;have kb:(n:Int) < (lm.length:Int):=by omega
 have hn0:¬ (n:Int) < 0:=by omega
 obtain ⟨q1,q2,q3,q4,q5,q6,q7,q8,q9,qa,qb,qc,qd,qe,qf,qg,qh,qi⟩:=q;simp only at y0 y1 y2 y3 y4 y5 y6 y7 y8 y9 hqp;have HQP:=Ac hqp;clear Bb h hqp;go_enter Tryz.func243,Tryz.ntmps243;go_wp2;refine bodyPost_ret (v:=.agg #[.int .i64 q1,.int .i64 q2,.slice q3 q4 q5,.int .i64 q6,.int .i64 q7,.int .i64 q8,.int .i64 q9,.slice qa qb qc,.slice qd qe qf,.slice qg qh qi]) (by simp [results,Tryz.results243,go_sem]) rfl ?_;exact ⟨⟨q1,q2,q3,q4,q5,q6,q7,q8,q9,qa,qb,qc,qd,qe,qf,qg,qh,qi⟩,rfl,hq.below (Aj _ _ _),Aa HQP,Aj _ _ _⟩
def Pk.isNew (L:List Cd.Ins) (c place:Int):Bool:=(Cd.findAt place L).isSome && ((Cd.orZero (Cd.findAt place L)).op == 15) && ((Cd.orZero (Cd.findAt place L)).n == c)
theorem Sm (b:PBd) (bb:Nat) (lm:List (Rd.Mth × MthV)) (fl:List (Value × List (Int × Int))) (place c:Int) (w:World) (h:Ru b w bb lm fl) :
  Calls Tryz.prog 240 #[b.val,.int .i64 place,.int .i64 c] w fun e w'=>e=.returned (.bool (Pk.isNew b.L c place))∧Below w.heap.size w w':=by
 have hat:=fun w' (hb:Below w.heap.size w w')=>Mg b.L b.la b.lc bb place w' h.ll (h.below hb).ins;unfold Pk.isNew;generalize Cd.findAt place b.L=r at *;obtain ⟨fa1,fl1,fc1,fa2,fl2,fc2,tg,tc,ya,yn,yc,cl,nm,pa,pl,pc,r1,r2,lo,st,ca,cn,cc,ha,hl,hc,ma,ml,mc,la,lc,T,L⟩:=b;simp only [PBd.val] at hat ⊢;have HAT:=Ac hat;clear hat h;cases r with
 | none =>
  go_enter Tryz.func240,Tryz.ntmps240;go_wp2_with fail
  refine (Aa HAT _ ((Below.refl _ _).alloc (Nat.le_refl _) _)).mono ?_;rintro e w1 ⟨rfl,hb1⟩;have hB1:=((Below.refl w.heap.size w).alloc (Nat.le_refl _) _).trans (hb1.mono (by simp));go_wp2;go_ret;exact ⟨rfl,hB1.alloc hB1.size _⟩
 | some x =>
  obtain ⟨xp,xo,xn⟩:=x;simp only [Cd.orZero] at HAT ⊢;by_cases ho:xo=15
  ·subst ho;go_enter Tryz.func240,Tryz.ntmps240;go_wp2_with fail
   refine (Aa HAT _ ((Below.refl _ _).alloc (Nat.le_refl _) _)).mono ?_;rintro e w1 ⟨rfl,hb1⟩;have hB1:=((Below.refl w.heap.size w).alloc (Nat.le_refl _) _).trans (hb1.mono (by simp));go_wp2;go_ret;exact ⟨by simp,hB1.alloc hB1.size _⟩
  ·have ho':(xo == 15)=false:=by simp [ho]
   clear ho;rw [ho'];go_enter Tryz.func240,Tryz.ntmps240;go_wp2_with fail
   refine (Aa HAT _ ((Below.refl _ _).alloc (Nat.le_refl _) _)).mono ?_;rintro e w1 ⟨rfl,hb1⟩;have hB1:=((Below.refl w.heap.size w).alloc (Nat.le_refl _) _).trans (hb1.mono (by simp));go_wp2;go_ret;exact ⟨rfl,hB1.alloc hB1.size _⟩
end Go.Proofs.YtcefiamkoincoaaGreat
