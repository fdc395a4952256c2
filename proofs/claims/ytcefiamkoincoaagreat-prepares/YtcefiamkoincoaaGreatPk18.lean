/- a part of the proof -/
import Derived.Test.YtcefiamkoincoaaGreatPk17
set_option maxRecDepth 100000
set_option maxHeartbeats 40000000
set_option linter.unusedVariables false
set_option linter.unusedSimpArgs false
namespace Go.Proofs.YtcefiamkoincoaaGreat
open Go.RowKit
def Abk (a b:Int × Int) (l:List (Int × Int)) (m:Nat):List (Int × Int):=Zy a b (l.take m)++l.drop m
theorem Ml (a b:Int × Int) (l:List (Int × Int)):Abk a b l 0=l:=by simp[Abk,Zy]
theorem Nl (a b:Int × Int) (l:List (Int × Int)):Abk a b l l.length=Zy a b l:=by simp[Abk]
theorem J4 (a b:Int × Int) (l:List (Int × Int)) (m:Nat):(Abk a b l m).length=l.length:=by
 simp only[Abk,List.length_append,Bx,List.length_take,List.length_drop];omega
theorem J1 (a b:Int × Int) (l:List (Int × Int)) (m:Nat) (hm:m<l.length) (h:m<(Abk a b l m).length):(Abk a b l m)[m]=l[m]:=by
 have e:(Zy a b (l.take m)).length=m:=by rw[Bx];simp;omega
 simp only[Abk];rw[List.getElem_append_right (by omega)];simp[e]
theorem Ib (a b:Int × Int) (l:List (Int × Int)) (m:Nat) (hm:m<l.length):Abk a b l (m+1)=(Abk a b l m).set m (if l[m]=a then b else l[m]):=by
 have e:(Zy a b (l.take m)).length=m:=by rw[Bx];simp;omega
 simp only[Abk];rw[Iy a b l m hm,List.set_append_right _ _ (by omega),e,Nat.sub_self,List.append_assoc,List.drop_eq_getElem_cons hm];rfl
theorem Ms (a b:Int × Int) (l:List (Int × Int)) (m:Nat) (hm:m<l.length) (h:l[m]≠a):Abk a b l (m+1)=Abk a b l m:=by
 rw[Ib a b l m hm,if_neg h];have h2:m<(Abk a b l m).length:=by rw[J4];exact hm
 conv=>lhs;arg 3;rw[← J1 a b l m hm h2]
 exact List.set_getElem_self h2
theorem Kr (w:World) (B k:Nat) (c:BnC) (v:FrV) (b:Aai) (k1 n1 k2 n2:Int) (h:BnAt w B k c v b) :
  Calls Tryz.prog 202 #[.pointer (some ⟨k,0,none⟩),.agg #[.int .i64 k1,.int .i64 n1],.agg #[.int .i64 k2,.int .i64 n2]] w fun e w'=>e=.returned (.tuple #[])∧∃ v',BnAt w' B k c v' (Ac1 (k1,n1) (k2,n2) b)∧Bn k w v w' v':=by
 obtain⟨lo,st,br⟩:=b;unfold Ac1;simp only;obtain⟨la,ln,lc,sa,sn,sc⟩:=v;obtain⟨xa,xc,hsh⟩:=Af h.lo;simp only[Value.slice.injEq]at hsh;obtain⟨rfl,hn1,rfl⟩:=hsh;subst hn1;obtain⟨xa,xc,hsh⟩:=Af h.st;simp only[Value.slice.injEq]at hsh;obtain⟨rfl,hn1,rfl⟩:=hsh;subst hn1;have h0:=(h.alloc (O7 k1 n1)).alloc (O7 k2 n2);have G0:=((Bn.refl k w ⟨la,lo.length,lc,sa,st.length,sc⟩).alloc (O7 k1 n1)).alloc (O7 k2 n2);have O0:=Ah w (O7 k1 n1) (O7 k2 n2);have N0:=Ag w (O7 k1 n1) (O7 k2 n2);have hll:=h.ll;have hsl:=h.sl;have hkl:=h.k_lt;have hlo0:∀ g,la=some ⟨g,0,none⟩→g<w.heap.size:=fun g e=>(h.lo.lt g (by subst e;rfl)).2;have hst0:∀ g,sa=some ⟨g,0,none⟩→g<w.heap.size:=fun g e=>(h.st.lt g (by subst e;rfl)).2;have c2:=Ab h0.blk 2;simp at c2;simp only at hll hsl;go_enter Tryz.func202,Tryz.ntmps202;go_wp2
 go_loopw [15] (fun s wr=>∃ m:Nat,m≤lo.length∧s=.int .i64 (m:Int)∧BnAt wr B k c ⟨la,lo.length,lc,sa,st.length,sc⟩ ⟨Abk (k1,n1) (k2,n2) lo m,st,br⟩∧Bn k w ⟨la,lo.length,lc,sa,st.length,sc⟩ wr ⟨la,lo.length,lc,sa,st.length,sc⟩∧wr.heap[w.heap.size]?=some (O7 k1 n1)∧wr.heap[w.heap.size+1]?=some (O7 k2 n2))
  (fun s _=>lo.length-(intOf s).toNat)
 case atStart=>exact⟨0,by omega,rfl,by rw[Ml];exact h0,G0,O0,N0⟩
 case round =>
  clear h0 G0 O0 N0 c2;obtain⟨m,hm,rfl,hb,hG,hO,hN⟩:=hrel;have lO:=lt_of_block hO;have lN:=lt_of_block hN;by_cases hmn:m<lo.length
  ·have hpl:m<(Abk (k1,n1) (k2,n2) lo m).length:=by rw[J4];exact hmn
   have hg9:=J1 (k1,n1) (k2,n2) lo m hmn hpl;have hss:=Ib (k1,n1) (k2,n2) lo m hmn;have hsm:=Ms (k1,n1) (k2,n2) lo m hmn;obtain⟨g,hg,hglt,hgB,y0,y1,z0,z1,-⟩:=Fy hb.lo hpl k2 n2;subst hg;have hgw:=hlo0 g rfl;rw[hg9]at y0 y1;generalize lo[m]=x at *;obtain⟨t1,t2⟩:=x;simp only at y0 y1;have d2:=Ab hb.blk 2;have lK:=hb.k_lt;obtain⟨o0,o1⟩:=cl2 hO;obtain⟨q0,q1⟩:=cl2 hN;simp at d2 o0 o1 q0 q1;have kb:(m:Int)<(lo.length:Int):=by omega
   by_cases he1:t1=k1
   ·subst he1;by_cases he2:t2=n1
    ·subst he2;rw[if_pos rfl]at hss;have hS:=hb.setLo (g:=g) (q:=m) rfl hpl k2 n2;rw[← hss]at hS;have hSA:=hS.1.alloc (O7 t1 t2);have hsz:((wr.setCell ⟨g,m*2,none⟩ (.int .i64 k2)).setCell ⟨g,m*2+1,none⟩ (.int .i64 n2)).heap.size=wr.heap.size:=by simp[World.setCell]
     have hOS:((wr.setCell ⟨g,m*2,none⟩ (.int .i64 k2)).setCell ⟨g,m*2+1,none⟩ (.int .i64 n2)).heap[w.heap.size]?=_:=((As (by omega)).trans (As (by omega))).trans hO;have hNS:((wr.setCell ⟨g,m*2,none⟩ (.int .i64 k2)).setCell ⟨g,m*2+1,none⟩ (.int .i64 n2)).heap[w.heap.size+1]?=_:=((As (by omega)).trans (As (by omega))).trans hN;have a0:(wr.alloc (O7 t1 t2)).cell? ⟨w.heap.size+1,0,none⟩=some (.int .i64 k2):=(Ab (Aj hN (O7 t1 t2)) 0).trans rfl;have a1:(wr.alloc (O7 t1 t2)).cell? ⟨w.heap.size+1,1,none⟩=some (.int .i64 n2):=(Ab (Aj hN (O7 t1 t2)) 1).trans rfl;have a2:(wr.alloc (O7 t1 t2)).cell? ⟨k,2,none⟩=some (.slice (some ⟨g,0,none⟩) lo.length lc):=(Ab (hb.alloc (O7 t1 t2)).blk 2).trans rfl;have s0:(((wr.setCell ⟨g,m*2,none⟩ (.int .i64 k2)).setCell ⟨g,m*2+1,none⟩ (.int .i64 n2)).alloc (O7 t1 t2)).cell? ⟨w.heap.size+1,0,none⟩=some (.int .i64 k2):=(Ab (Aj hNS (O7 t1 t2)) 0).trans rfl;have s1:(((wr.setCell ⟨g,m*2,none⟩ (.int .i64 k2)).setCell ⟨g,m*2+1,none⟩ (.int .i64 n2)).alloc (O7 t1 t2)).cell? ⟨w.heap.size+1,1,none⟩=some (.int .i64 n2):=(Ab (Aj hNS (O7 t1 t2)) 1).trans rfl;have s2:(((wr.setCell ⟨g,m*2,none⟩ (.int .i64 k2)).setCell ⟨g,m*2+1,none⟩ (.int .i64 n2)).alloc (O7 t1 t2)).cell? ⟨k,2,none⟩=some (.slice (some ⟨g,0,none⟩) lo.length lc):=(Ab hSA.blk 2).trans rfl;clear hss hsm hg9 hsz;go_wp2
     go_region_held3 (fun w'=>w'.cell? ⟨k,2,none⟩=some (.slice (some ⟨g,0,none⟩) lo.length lc)∧w'.cell? ⟨w.heap.size+1,0,none⟩=some (.int .i64 k2)∧w'.cell? ⟨w.heap.size+1,1,none⟩=some (.int .i64 n2)) (first | exact⟨a2,a0,a1⟩ | exact⟨s2,s0,s1⟩) (fail)
     go_wp2
     go_roundw
     case rel=>exact⟨m+1,by omega,by go_num,hSA.drew,(((hG.trans hS.2).alloc _).drew),Aj hOS _,Aj hNS _⟩
     case measure=>simp[intOf];omega
    ·have he2':(t2==n1)=false:=by simp[he2]
     rw[← hsm (by simp;exact he2)]at hb;have hb2:=hb.alloc (O7 t1 t2);have hO2:=Aj hO (O7 t1 t2);have hN2:=Aj hN (O7 t1 t2);clear hss hsm hg9 he2;go_wp2
     go_roundw
     case rel=>exact⟨m+1,by omega,by go_num,hb2,hG.alloc _,hO2,hN2⟩
     case measure=>simp[intOf];omega
   ·have he1':(t1==k1)=false:=by simp[he1]
    rw[← hsm (by simp;intro e;exact absurd e he1)]at hb;have hb2:=hb.alloc (O7 t1 t2);have hO2:=Aj hO (O7 t1 t2);have hN2:=Aj hN (O7 t1 t2);clear hss hsm hg9 he1;go_wp2
    go_roundw
    case rel=>exact⟨m+1,by omega,by go_num,hb2,hG.alloc _,hO2,hN2⟩
    case measure=>simp[intOf];omega
  ·obtain rfl:m=lo.length:=by omega
   rw[Nl]at hb;have kb:¬ (lo.length:Int)<(lo.length:Int):=by omega
   have c2:=Ab hb.blk 3;simp at c2;have h0:=hb;have G0:=hG;have O0:=hO;have N0:=hN;clear hb hG hO hN lO lN;go_wp2
   go_loopw [36] (fun s wr=>∃ m:Nat,m≤st.length∧s=.int .i64 (m:Int)∧BnAt wr B k c ⟨la,lo.length,lc,sa,st.length,sc⟩ ⟨Zy (k1,n1) (k2,n2) lo,Abk (k1,n1) (k2,n2) st m,br⟩∧Bn k w ⟨la,lo.length,lc,sa,st.length,sc⟩ wr ⟨la,lo.length,lc,sa,st.length,sc⟩∧wr.heap[w.heap.size]?=some (O7 k1 n1)∧wr.heap[w.heap.size+1]?=some (O7 k2 n2))
    (fun s _=>st.length-(intOf s).toNat)
   case atStart=>exact⟨0,by omega,rfl,by rw[Ml];exact h0,G0,O0,N0⟩
   case round =>
    clear h0 G0 O0 N0 c2;obtain⟨m,hm,rfl,hb,hG,hO,hN⟩:=hrel;have lO:=lt_of_block hO;have lN:=lt_of_block hN;by_cases hmn:m<st.length
    ·have hpl:m<(Abk (k1,n1) (k2,n2) st m).length:=by rw[J4];exact hmn
     have hg9:=J1 (k1,n1) (k2,n2) st m hmn hpl;have hss:=Ib (k1,n1) (k2,n2) st m hmn;have hsm:=Ms (k1,n1) (k2,n2) st m hmn;obtain⟨g,hg,hglt,hgB,y0,y1,z0,z1,-⟩:=Fy hb.st hpl k2 n2;subst hg;have hgw:=hst0 g rfl;rw[hg9]at y0 y1;generalize st[m]=x at *;obtain⟨t1,t2⟩:=x;simp only at y0 y1;have d2:=Ab hb.blk 3;have lK:=hb.k_lt;obtain⟨o0,o1⟩:=cl2 hO;obtain⟨q0,q1⟩:=cl2 hN;simp at d2 o0 o1 q0 q1;have kb:(m:Int)<(st.length:Int):=by omega
     by_cases he1:t1=k1
     ·subst he1;by_cases he2:t2=n1
      ·subst he2;rw[if_pos rfl]at hss;have hS:=hb.setSt (g:=g) (q:=m) rfl hpl k2 n2;rw[← hss]at hS;have hSA:=hS.1.alloc (O7 t1 t2);have hsz:((wr.setCell ⟨g,m*2,none⟩ (.int .i64 k2)).setCell ⟨g,m*2+1,none⟩ (.int .i64 n2)).heap.size=wr.heap.size:=by simp[World.setCell]
       have hOS:((wr.setCell ⟨g,m*2,none⟩ (.int .i64 k2)).setCell ⟨g,m*2+1,none⟩ (.int .i64 n2)).heap[w.heap.size]?=_:=((As (by omega)).trans (As (by omega))).trans hO;have hNS:((wr.setCell ⟨g,m*2,none⟩ (.int .i64 k2)).setCell ⟨g,m*2+1,none⟩ (.int .i64 n2)).heap[w.heap.size+1]?=_:=((As (by omega)).trans (As (by omega))).trans hN;have a0:(wr.alloc (O7 t1 t2)).cell? ⟨w.heap.size+1,0,none⟩=some (.int .i64 k2):=(Ab (Aj hN (O7 t1 t2)) 0).trans rfl;have a1:(wr.alloc (O7 t1 t2)).cell? ⟨w.heap.size+1,1,none⟩=some (.int .i64 n2):=(Ab (Aj hN (O7 t1 t2)) 1).trans rfl;have a2:(wr.alloc (O7 t1 t2)).cell? ⟨k,3,none⟩=some (.slice (some ⟨g,0,none⟩) st.length sc):=(Ab (hb.alloc (O7 t1 t2)).blk 3).trans rfl;have s0:(((wr.setCell ⟨g,m*2,none⟩ (.int .i64 k2)).setCell ⟨g,m*2+1,none⟩ (.int .i64 n2)).alloc (O7 t1 t2)).cell? ⟨w.heap.size+1,0,none⟩=some (.int .i64 k2):=(Ab (Aj hNS (O7 t1 t2)) 0).trans rfl;have s1:(((wr.setCell ⟨g,m*2,none⟩ (.int .i64 k2)).setCell ⟨g,m*2+1,none⟩ (.int .i64 n2)).alloc (O7 t1 t2)).cell? ⟨w.heap.size+1,1,none⟩=some (.int .i64 n2):=(Ab (Aj hNS (O7 t1 t2)) 1).trans rfl;have s2:(((wr.setCell ⟨g,m*2,none⟩ (.int .i64 k2)).setCell ⟨g,m*2+1,none⟩ (.int .i64 n2)).alloc (O7 t1 t2)).cell? ⟨k,3,none⟩=some (.slice (some ⟨g,0,none⟩) st.length sc):=(Ab hSA.blk 3).trans rfl;clear hss hsm hg9 hsz;go_wp2
       go_region_held3 (fun w'=>w'.cell? ⟨k,3,none⟩=some (.slice (some ⟨g,0,none⟩) st.length sc)∧w'.cell? ⟨w.heap.size+1,0,none⟩=some (.int .i64 k2)∧w'.cell? ⟨w.heap.size+1,1,none⟩=some (.int .i64 n2)) (first | exact⟨a2,a0,a1⟩ | exact⟨s2,s0,s1⟩) (fail)
       go_wp2
       go_roundw
       case rel=>exact⟨m+1,by omega,by go_num,hSA.drew,(((hG.trans hS.2).alloc _).drew),Aj hOS _,Aj hNS _⟩
       case measure=>simp[intOf];omega
      ·have he2':(t2==n1)=false:=by simp[he2]
       rw[← hsm (by simp;exact he2)]at hb;have hb2:=hb.alloc (O7 t1 t2);have hO2:=Aj hO (O7 t1 t2);have hN2:=Aj hN (O7 t1 t2);clear hss hsm hg9 he2;go_wp2
       go_roundw
       case rel=>exact⟨m+1,by omega,by go_num,hb2,hG.alloc _,hO2,hN2⟩
       case measure=>simp[intOf];omega
     ·have he1':(t1==k1)=false:=by simp[he1]
      rw[← hsm (by simp;intro e;exact absurd e he1)]at hb;have hb2:=hb.alloc (O7 t1 t2);have hO2:=Aj hO (O7 t1 t2);have hN2:=Aj hN (O7 t1 t2);clear hss hsm hg9 he1;go_wp2
      go_roundw
      case rel=>exact⟨m+1,by omega,by go_num,hb2,hG.alloc _,hO2,hN2⟩
      case measure=>simp[intOf];omega
    ·obtain rfl:m=st.length:=by omega
     rw[Nl]at hb;have kb:¬ (st.length:Int)<(st.length:Int):=by omega
     clear lO lN;go_wp2
     go_end0
     exact⟨rfl,_,hb,hG⟩
theorem Cp (w:World) (B k:Nat) (c:BnC) (v:FrV) (b:Aai) (h:BnAt w B k c v b) :
  Calls Tryz.prog 209 #[.pointer (some ⟨k,0,none⟩)] w fun e w'=>∃ u:FrV,e=.returned (.tuple #[u.val,.bool (Aax b).isSome])∧(∀ y,Aax b=some y→u=v∧y=⟨b.lo,b.st⟩)∧BnAt w' B k c v b∧Bn k w v w' v:=by
 have hkl:=h.k_lt;have hBl:=h.B_le;have hnew:=h.new (Nat.le_refl _);have c2:=Ab h.blk 2;have c3:=Ab h.blk 3;have c5:=Ab h.blk 5;simp at c2 c3 c5;obtain⟨lo,st,br⟩:=b;obtain⟨la,ln,lc,sa,sn,sc⟩:=v;simp only at c2 c3 c5;have R0:=Ad w (O27 none 0 0 none 0 0);cases br with
 | true =>
  rw[Hh rfl];go_enter Tryz.func209,Tryz.ntmps209;go_wp2;refine bodyPost_ret (v:=.tuple #[.agg #[.slice none 0 0,.slice none 0 0],.bool false]) (by simp[results,Tryz.results209,go_sem]) rfl ?_;exact⟨⟨none,0,0,none,0,0⟩,rfl,fun y hy=>by simp at hy,h.alloc _,(Bn.refl _ _ _).alloc _⟩
 | false =>
  rw[Za rfl];have a2:(w.alloc (O27 none 0 0 none 0 0)).cell? ⟨k,2,none⟩=some (.slice la ln lc):=(Ab (h.alloc (O27 none 0 0 none 0 0)).blk 2).trans rfl;have a3:(w.alloc (O27 none 0 0 none 0 0)).cell? ⟨k,3,none⟩=some (.slice sa sn sc):=(Ab (h.alloc (O27 none 0 0 none 0 0)).blk 3).trans rfl;have b2:(w.alloc (O27 la ln lc sa sn sc)).cell? ⟨k,2,none⟩=some (.slice la ln lc):=(Ab (h.alloc (O27 la ln lc sa sn sc)).blk 2).trans rfl;have b3:(w.alloc (O27 la ln lc sa sn sc)).cell? ⟨k,3,none⟩=some (.slice sa sn sc):=(Ab (h.alloc (O27 la ln lc sa sn sc)).blk 3).trans rfl;go_enter Tryz.func209,Tryz.ntmps209;go_wp2
  go_region_held3 (fun w'=>w'.cell? ⟨k,2,none⟩=some (.slice la ln lc)∧w'.cell? ⟨k,3,none⟩=some (.slice sa sn sc)) (first | exact⟨a2,a3⟩ | exact⟨b2,b3⟩) (fail)
  go_wp2;refine bodyPost_ret (v:=.tuple #[.agg #[.slice la ln lc,.slice sa sn sc],.bool true]) (by simp[results,Tryz.results209,go_sem]) rfl ?_;exact⟨⟨la,ln,lc,sa,sn,sc⟩,rfl,fun y hy=>⟨rfl,(Option.some.inj hy).symm⟩,(h.alloc _).drew,((Bn.refl _ _ _).alloc _).drew⟩
theorem Kv (l:List (Int × Int)) (a:Option Addr) (n cp:Nat) (w:World) (hl:l.length≤10000) (h:TyR w (.slice a n cp) l) :
  Calls Tryz.prog 238 #[.slice a n cp] w fun e w'=>∃ va vc,e=.returned (.slice va l.length vc)∧TysAt w' w.heap.size (.slice va l.length vc) l∧Below w.heap.size w w':=by
 go_enter Tryz.func238,Tryz.ntmps238;go_wp2_with (at_builtin;refine Bw rfl _ _ rfl w.heap.size _ [] l a n cp rfl (World.ownsRow_nil _ _ _ _) rfl h (by simp;omega) (Nat.le_refl _) ?_)
 intro v' w2 hown2 hgrow;obtain⟨va,vc,rfl⟩:=Af hown2;go_wp2;go_ret;exact⟨va,vc,rfl,hown2,(Below.refl _ _).grown hgrow (Nat.le_refl _) (fun j hj=>by cases hj)⟩
theorem Xq {w:World}{k1 k2:Nat}{a1 a2 b1 b2:Option Addr}{m1 d1 m2 d2 m3 d3 m4 d4:Nat}{t1 t2:TypeId} (hT:w.heap[k1]?=some (.cells #[.slice a1 m1 d1,.slice a2 m2 d2] t1 (0,0))) (hX:w.heap[k2]?=some (.cells #[.slice b1 m3 d3,.slice b2 m4 d4] t2 (0,0))) :
  w.cell? ⟨k1,0,none⟩=some (.slice a1 m1 d1)∧w.cell? ⟨k1,1,none⟩=some (.slice a2 m2 d2)∧w.cell? ⟨k2,0,none⟩=some (.slice b1 m3 d3)∧w.cell? ⟨k2,1,none⟩=some (.slice b2 m4 d4):=by
 refine⟨?_,?_,?_,?_⟩
 ·rw[Ab hT];rfl
 ·rw[Ab hT];rfl
 ·rw[Ab hX];rfl
 ·rw[Ab hX];rfl
theorem Bo {b b' size n:Nat}{t:TypeId}{v:Value}{xs:List Value}{w:World} (h:w.ownsRow b t size v n xs) (hb:b'≤b):w.ownsRow b' t size v n xs:=by
 obtain⟨e1,e2|⟨g,cap,cur,a,c,d,r⟩⟩:=h
 ·exact⟨e1,.inl e2⟩
 ·exact⟨e1,.inr ⟨g,cap,cur,a,Nat.le_trans hb c,d,r⟩⟩
theorem Nm (c:BnC) (v:FrV) (x:Zt) (w:World) (hx:v.is x w) :
  Calls Tryz.prog 197 #[.agg #[.slice (some ⟨c.tg,0,none⟩) c.T.length c.tc,.slice c.ya c.yn c.yc],v.val,.int .i64 c.hi] w fun e w'=>∃ u:FrV,
   e=.returned (.agg #[.slice (some ⟨c.tg,0,none⟩) c.T.length c.tc,.slice c.ya c.yn c.yc,.slice u.la u.ln u.lc,.slice u.sa u.sn u.sc,.int .i64 c.hi,.bool false]) ∧
   TysAt w' w.heap.size u.lv x.locals∧TysAt w' w.heap.size u.sv x.stack∧(∀ j,u.lv.ownBlock=some j→u.sv.ownBlock≠some j)∧Below w.heap.size w w':=by
 have hC1:=fun w' (h:Below w.heap.size w w')=>Kv x.locals v.la v.ln v.lc w' (by have:=hx.hl;omega) (hx.lo.below h);have hC2:=fun w' (h:Below w.heap.size w w')=>Kv x.stack v.sa v.sn v.sc w' (by have:=hx.hs;omega) (hx.st.below h);obtain⟨la,ln,lc,sa,sn,sc⟩:=v;simp only[FrV.val]at hC1 hC2 ⊢;have HC1:=Ac hC1;have HC2:=Ac hC2;clear hC1 hC2 hx;have hB0:=A8 w (O2 (some ⟨c.tg,0,none⟩) c.T.length c.tc c.ya c.yn c.yc) (O27 la ln lc sa sn sc) (O26 none 0 0 none 0 0 none 0 0 none 0 0 0 false);obtain⟨T0,X0,Z0⟩:=Em w (O2 (some ⟨c.tg,0,none⟩) c.T.length c.tc c.ya c.yn c.yc) (O27 la ln lc sa sn sc) (O26 none 0 0 none 0 0 none 0 0 none 0 0 0 false);have t0:(((w.alloc (O2 (some ⟨c.tg,0,none⟩) c.T.length c.tc c.ya c.yn c.yc)).alloc (O27 la ln lc sa sn sc)).alloc (O26 none 0 0 none 0 0 none 0 0 none 0 0 0 false)).cell? ⟨w.heap.size,0,none⟩=some (.slice (some ⟨c.tg,0,none⟩) c.T.length c.tc):=(Ab T0 0).trans rfl;have t1:(((w.alloc (O2 (some ⟨c.tg,0,none⟩) c.T.length c.tc c.ya c.yn c.yc)).alloc (O27 la ln lc sa sn sc)).alloc (O26 none 0 0 none 0 0 none 0 0 none 0 0 0 false)).cell? ⟨w.heap.size,1,none⟩=some (.slice c.ya c.yn c.yc):=(Ab T0 1).trans rfl;have x0:(((w.alloc (O2 (some ⟨c.tg,0,none⟩) c.T.length c.tc c.ya c.yn c.yc)).alloc (O27 la ln lc sa sn sc)).alloc (O26 none 0 0 none 0 0 none 0 0 none 0 0 0 false)).cell? ⟨w.heap.size+1,0,none⟩=some (.slice la ln lc):=(Ab X0 0).trans rfl;have x1:(((w.alloc (O2 (some ⟨c.tg,0,none⟩) c.T.length c.tc c.ya c.yn c.yc)).alloc (O27 la ln lc sa sn sc)).alloc (O26 none 0 0 none 0 0 none 0 0 none 0 0 0 false)).cell? ⟨w.heap.size+1,1,none⟩=some (.slice sa sn sc):=(Ab X0 1).trans rfl;have lT:=lt_of_block T0;have lX:=lt_of_block X0;go_enter Tryz.func197,Tryz.ntmps197;go_wp2
 go_region_held3 (fun w'=>w'.cell? ⟨w.heap.size,0,none⟩=some (.slice (some ⟨c.tg,0,none⟩) c.T.length c.tc)∧w'.cell? ⟨w.heap.size,1,none⟩=some (.slice c.ya c.yn c.yc)∧w'.cell? ⟨w.heap.size+1,0,none⟩=some (.slice la ln lc)∧w'.cell? ⟨w.heap.size+1,1,none⟩=some (.slice sa sn sc))
  (exact Xq (by repeat (first | (with_reducible refine(As (by omega)).trans ?_) | (with_reducible refine stay hb5 ?_) | (with_reducible refine stay hb6 ?_) | exact T0)) (by repeat (first | (with_reducible refine(As (by omega)).trans ?_) | (with_reducible refine stay hb5 ?_) | (with_reducible refine stay hb6 ?_) | exact X0)))
  (first | (go_at_call 238;refine(Aa HC1 _ (by first | exact hB0.drew | exact hBs)).mono ?_;rintro e w5 ⟨va1,vc1,rfl,ht5,hb5⟩;have hBl:Below w.heap.size w w5:=(fun hP=>Below.trans hP (hb5.mono (Below.size hP))) (by first | exact hB0.drew | exact hBs);have Zl:=stay hb5 (by first | exact Z0 | exact Zs);have z0:=Ab Zl 0;have q0:=Ae Zl 0;have z1:=Ab Zl 1;have q1:=Ae Zl 1;have z2:=Ab Zl 2;have q2:=Ae Zl 2;have z3:=Ab Zl 3;have q3:=Ae Zl 3;have z4:=Ab Zl 4;have q4:=Ae Zl 4;have z5:=Ab Zl 5;have q5:=Ae Zl 5;simp at z0 z1 z2 z3 z4 z5) | (go_at_call 238;refine(Aa HC2 _ (by first | exact hB0.drew | exact hBl)).mono ?_;rintro e w6 ⟨va2,vc2,rfl,ht6,hb6⟩;have hBs:Below w.heap.size w w6:=(fun hP=>Below.trans hP (hb6.mono (Below.size hP))) (by first | exact hB0.drew | exact hBl);have Zs:=stay hb6 (by first | exact Z0 | exact Zl);have z0:=Ab Zs 0;have q0:=Ae Zs 0;have z1:=Ab Zs 1;have q1:=Ae Zs 1;have z2:=Ab Zs 2;have q2:=Ae Zs 2;have z3:=Ab Zs 3;have q3:=Ae Zs 3;have z4:=Ab Zs 4;have q4:=Ae Zs 4;have z5:=Ab Zs 5;have q5:=Ae Zs 5;simp at z0 z1 z2 z3 z4 z5))
 have hz5:∀ j,(Value.slice va1 x.locals.length vc1).ownBlock=some j→w.heap.size+3≤j∧j<w5.heap.size:=fun j hj=>by
  have:=ht5.lt j hj;simp at this;omega
 have hz6:∀ j,(Value.slice va2 x.stack.length vc2).ownBlock=some j→w5.heap.size≤j:=fun j hj=>(ht6.lt j hj).1;have hs5:=hBl.size;have lZ:=lt_of_block Zl;have lr:=lt_of_block Zs;go_wp2_with fail
 refine bodyPost_ret (v:=.agg #[.slice (some ⟨c.tg,0,none⟩) c.T.length c.tc,.slice c.ya c.yn c.yc,.slice va1 x.locals.length vc1,.slice va2 x.stack.length vc2,.int .i64 c.hi,.bool false]) (by simp[results,Tryz.results197,go_sem,z0,z1,z2,z3,z4,z5]) rfl ?_;refine⟨⟨va1,x.locals.length,vc1,va2,x.stack.length,vc2⟩,rfl,?_,?_,fun j hj hj'=>?_,?_⟩
 ·refine Ca (Bo (Ca ht5 (fun j hj=>hb6.block j (hz5 j hj).2)) (by simp;omega)) (fun j hj=>?_);have:=hz5 j hj
  repeat (with_reducible refine(As (by omega)).trans ?_)
  rfl
 ·refine Ca (Bo ht6 hs5) (fun j hj=>?_);have:=hz6 j hj
  repeat (with_reducible refine(As (by omega)).trans ?_)
  rfl
 ·have:=hz5 j hj;have:=hz6 j hj';omega
 ·repeat (with_reducible refine Below.setCell ?_ (by simp;omega) _)
  exact hBs
theorem Fq (w:World):Calls Tryz.prog 241 #[] w fun e w'=>e=.returned (.agg #[.int .i64 1,.int .i64 0])∧Below w.heap.size w w':=by
 go_enter Tryz.func241,Tryz.ntmps241;go_wp2;refine bodyPost_ret (v:=.agg #[.int .i64 1,.int .i64 0]) (by simp[results,Tryz.results241,go_sem]) rfl ?_;exact⟨rfl,by repeat (first | refine Below.setCell ?_ (by simp) _ | refine Below.alloc ?_ (by simp) _ | exact Below.refl _ _)⟩
theorem Tg (w:World):Calls Tryz.prog 245 #[] w fun e w'=>e=.returned (.agg #[.int .i64 2,.int .i64 0])∧Below w.heap.size w w':=by
 go_enter Tryz.func245,Tryz.ntmps245;go_wp2;refine bodyPost_ret (v:=.agg #[.int .i64 2,.int .i64 0]) (by simp[results,Tryz.results245,go_sem]) rfl ?_;exact⟨rfl,by repeat (first | refine Below.setCell ?_ (by simp) _ | refine Below.alloc ?_ (by simp) _ | exact Below.refl _ _)⟩
theorem Df (c:Int) (w:World):Calls Tryz.prog 123 #[.int .i64 c] w fun e w'=>e=.returned (.agg #[.int .i64 3,.int .i64 c])∧Below w.heap.size w w':=by
 go_enter Tryz.func123,Tryz.ntmps123;go_wp2;refine bodyPost_ret (v:=.agg #[.int .i64 3,.int .i64 c]) (by simp[results,Tryz.results123,go_sem]) rfl ?_;exact⟨rfl,by repeat (first | refine Below.setCell ?_ (by simp) _ | refine Below.alloc ?_ (by simp) _ | exact Below.refl _ _)⟩
theorem Of (c:Int) (w:World):Calls Tryz.prog 203 #[.int .i64 c] w fun e w'=>e=.returned (.agg #[.int .i64 4,.int .i64 c])∧Below w.heap.size w w':=by
 go_enter Tryz.func203,Tryz.ntmps203;go_wp2;refine bodyPost_ret (v:=.agg #[.int .i64 4,.int .i64 c]) (by simp[results,Tryz.results203,go_sem]) rfl ?_;exact⟨rfl,by repeat (first | refine Below.setCell ?_ (by simp) _ | refine Below.alloc ?_ (by simp) _ | exact Below.refl _ _)⟩
def Re (a:Option Addr) (n B:Nat):Prop:=∀ g o,a=some ⟨g,o,none⟩→n≤g∨g<B
theorem Kx (m:PM) (w:World):Calls Tryz.prog 244 #[m.val] w fun e w'=>∃ a c,e=.returned (.slice a (Aau (m.r1,m.r2)).length c)∧TyR w' (.slice a (Aau (m.r1,m.r2)).length c) (Aau (m.r1,m.r2))∧Re a w.heap.size 0∧Below w.heap.size w w':=by
 obtain⟨cl,nm,pa,pl,pc,r1,r2,lo,st,ca,cn,cc,ha,hl,hc,ma,ml,mc⟩:=m;simp only[PM.val];unfold Aau;by_cases h:r1=0
 ·subst h;simp only[if_true];go_enter Tryz.func244,Tryz.ntmps244;go_wp2;go_ret;exact⟨none,0,rfl,TyR.nil _,fun g o e=>(by cases e),QN _⟩
 ·have h':(r1==0)=false:=by simp[h]
  simp only[h,if_false];have hB:=Ak w (O20 cl nm pa pl pc r1 r2 lo st ca cn cc ha hl hc ma ml mc) (O7 r1 r2);have hT:=TyR.new1 (w.alloc (O20 cl nm pa pl pc r1 r2 lo st ca cn cc ha hl hc ma ml mc)) r1 r2;clear h;go_enter Tryz.func244,Tryz.ntmps244;go_wp2;go_ret;exact⟨some ⟨w.heap.size+1,0,none⟩,1,rfl,by simpa using hT,fun g o e=>(by simp at e;omega),hB⟩
structure Ru (b:PBd) (w:World) (bb:Nat) (lm:List (Rd.Mth × MthV)) (fl:List (Value × List (Int × Int))):Prop where
 ml:b.fl2=lm.length
 m6:lm.length≤1000
 ms:MthsIn w bb (.slice b.fa2 b.fl2 b.fc2) lm
 yl:b.yn=fl.length
 y14:fl.length≤14
 yf:∀ p∈fl,p.2.length≤1000
 fs:FldsIn w bb (.slice b.ya b.yn b.yc) fl
 tl:b.T.length≤1000
 tr:TreeIn w b.tg b.T
 ll:b.L.length≤100000
 ins:InsAt w bb (.slice b.la b.L.length b.lc) b.L
theorem Ru.below {b:PBd}{w w':World}{bb:Nat}{lm:List (Rd.Mth × MthV)}{fl:List (Value × List (Int × Int))} (h:Ru b w bb lm fl) (hb:Below w.heap.size w w'):Ru b w' bb lm fl :=
 ⟨h.ml,h.m6,h.ms.kp (Kp.of_below (e:=none) hb) (by decide) (by decide) (by decide) (by decide) (by decide),h.yl,h.y14,h.yf,h.fs.below hb,h.tl,h.tr.below hb,h.ll,h.ins.kp (Kp.of_below (e:=none) hb) (by decide)⟩
theorem MthsIn.mth2 {w:World}{b:Nat}{a:Option Addr}{n c:Nat}{l:List (Rd.Mth × MthV)} (h:MthsIn w b (.slice a n c) l) {k:Nat} (hk:k<l.length) :
  ∃ (m:PM) (g:Nat),a=some ⟨g,0,none⟩∧g<w.heap.size∧(∀ j v,m.list[j]?=some v→w.cell? ⟨g,k*10+j,none⟩=some v)∧m.is l[k].1 w b∧(.slice m.pa m.pl m.pc:Value)=l[k].2.params:=by
 obtain⟨hrow,hall⟩:=h;obtain⟨xa,xc,hsh⟩:=Af hrow;simp only[Value.slice.injEq]at hsh;obtain⟨rfl,rfl,rfl⟩:=hsh;obtain⟨g,hg,hglt,_,hcell⟩:=Ao hrow (by omega);obtain⟨hp,hc,hh,lm,hlm,hm⟩:=hall _ (List.getElem_mem hk);have hat:=fun j hj=>Ws l k hk j hj;generalize l[k]=x at *;obtain⟨x,u⟩:=x;obtain⟨up,uc,uh,um⟩:=u;simp only at hp hc hh hm hat;obtain⟨pa,pc,rfl⟩:=Af hp;obtain⟨ca,cc,rfl⟩:=Af hc;obtain⟨ha,hc',rfl⟩:=Af hh;obtain⟨ma,mc,rfl⟩:=Af hm.1;have hml:lm.length=x.maps.length:=by rw[← hlm];simp
 refine⟨⟨x.cl,x.name,pa,x.params.length,pc,x.result.1,x.result.2,x.locals,x.stack,ca,x.code.length,cc,ha,x.handlers.length,hc',ma,lm.length,mc⟩,g,hg,hglt,?_,⟨rfl,rfl,rfl,rfl,rfl,rfl,rfl,hp,rfl,hc,rfl,hh,hml,lm,hlm,hm⟩,rfl⟩;intro j v hv;have hj:j<10:=by
  have:=(List.getElem?_eq_some_iff.1 hv).1
  simpa[PM.list] using this
 obtain⟨e1,e2⟩:=hat j hj;rw[hcell _ e2,e1,← hv];rfl
theorem Kg (b:PBd) (bb:Nat) (lm:List (Rd.Mth × MthV)) (fl:List (Value × List (Int × Int))) (n:Nat) (w:World) (h:Ru b w bb lm fl) (hn:n<lm.length) :
  Calls Tryz.prog 243 #[b.val,.int .i64 (n:Int)] w fun e w'=>∃ m:PM,e=.returned m.val∧m.is lm[n].1 w' bb∧(.slice m.pa m.pl m.pc:Value)=lm[n].2.params∧Below w.heap.size w w':=by
 obtain⟨q,g,hg,hglt,Bb,hq,hqp⟩:=h.ms.mth2 hn;obtain⟨y0,y1,y2,y3,y4,y5,y6,y7,y8,y9⟩:=Hy Bb;have hml:=h.ml;have hyl:=h.yl;obtain⟨fa1,fl1,fc1,fa2,fl2,fc2,tg,tc,ya,yn,yc,cl,nm,pa,pl,pc,r1,r2,lo,st,ca,cn,cc,ha,hl,hc,ma,ml,mc,la,lc,T,L⟩:=b;simp only at hml hyl hg;subst hml hyl hg;simp only[PBd.val];generalize lm[n]=x at *;have kb:(n:Int)<(lm.length:Int):=by omega
 have hn0:¬ (n:Int)<0:=by omega
 obtain⟨q1,q2,q3,q4,q5,q6,q7,q8,q9,qa,qb,qc,qd,qe,qf,qg,qh,qi⟩:=q;simp only at y0 y1 y2 y3 y4 y5 y6 y7 y8 y9 hqp;have HQP:=Ac hqp;clear Bb h hqp;go_enter Tryz.func243,Tryz.ntmps243;go_wp2;refine bodyPost_ret (v:=.agg #[.int .i64 q1,.int .i64 q2,.slice q3 q4 q5,.int .i64 q6,.int .i64 q7,.int .i64 q8,.int .i64 q9,.slice qa qb qc,.slice qd qe qf,.slice qg qh qi]) (by simp[results,Tryz.results243,go_sem]) rfl ?_;exact⟨⟨q1,q2,q3,q4,q5,q6,q7,q8,q9,qa,qb,qc,qd,qe,qf,qg,qh,qi⟩,rfl,hq.below (Ak _ _ _),Aa HQP,Ak _ _ _⟩
def Acj (L:List Cd.Ins) (c place:Int):Bool:=(Cd.findAt place L).isSome&&((Cd.orZero (Cd.findAt place L)).op==15)&&((Cd.orZero (Cd.findAt place L)).n==c)
theorem Rb (b:PBd) (bb:Nat) (lm:List (Rd.Mth × MthV)) (fl:List (Value × List (Int × Int))) (place c:Int) (w:World) (h:Ru b w bb lm fl) :
  Calls Tryz.prog 240 #[b.val,.int .i64 place,.int .i64 c] w fun e w'=>e=.returned (.bool (Acj b.L c place))∧Below w.heap.size w w':=by
 have hat:=fun w' (hb:Below w.heap.size w w')=>Lf b.L b.la b.lc bb place w' h.ll (h.below hb).ins;unfold Acj;generalize Cd.findAt place b.L=r at *;obtain⟨fa1,fl1,fc1,fa2,fl2,fc2,tg,tc,ya,yn,yc,cl,nm,pa,pl,pc,r1,r2,lo,st,ca,cn,cc,ha,hl,hc,ma,ml,mc,la,lc,T,L⟩:=b;simp only[PBd.val]at hat ⊢;have HAT:=Ac hat;clear hat h;cases r with
 | none =>
  go_enter Tryz.func240,Tryz.ntmps240;go_wp2_with fail
  refine(Aa HAT _ (QN _)).mono ?_;rintro e w1 ⟨rfl,hb1⟩;have hB1:=((Below.refl w.heap.size w).alloc (Nat.le_refl _) _).trans (hb1.mono (by simp));go_wp2;go_ret;exact⟨rfl,hB1.alloc hB1.size _⟩
 | some x =>
  obtain⟨xp,xo,xn⟩:=x;simp only[Cd.orZero]at HAT ⊢;by_cases ho:xo=15
  ·subst ho;go_enter Tryz.func240,Tryz.ntmps240;go_wp2_with fail
   refine(Aa HAT _ (QN _)).mono ?_;rintro e w1 ⟨rfl,hb1⟩;have hB1:=((Below.refl w.heap.size w).alloc (Nat.le_refl _) _).trans (hb1.mono (by simp));go_wp2;go_ret;exact⟨by simp,hB1.alloc hB1.size _⟩
  ·have ho':(xo==15)=false:=by simp[ho]
   clear ho;rw[ho'];go_enter Tryz.func240,Tryz.ntmps240;go_wp2_with fail
   refine(Aa HAT _ (QN _)).mono ?_;rintro e w1 ⟨rfl,hb1⟩;have hB1:=((Below.refl w.heap.size w).alloc (Nat.le_refl _) _).trans (hb1.mono (by simp));go_wp2;go_ret;exact⟨rfl,hB1.alloc hB1.size _⟩
def Abo (fs:List (List (Int × Int))) (ms:List Rd.Mth) (res:Int × Int) (op n:Int):List (Int × Int) :=
 if op=7∨op=8∨op=9∨op=10∨op=13 then [(1,0),(1,0)] else if op=12∨op=25 then [(1,0)] else if op=14∨op=19 then [(3,0)]
 else if op=17 then [(3,(Aci fs n).1)] else if op=18 then [(3,(Aci fs n).1),(Aci fs n).2]
 else if op=20 then (ms.getD n.toNat ⟨0,0,[],(0,0),0,0,[],[],[]⟩).params else if op=21 then (3,(ms.getD n.toNat ⟨0,0,[],(0,0),0,0,[],[],[]⟩).cl)::(ms.getD n.toNat ⟨0,0,[],(0,0),0,0,[],[],[]⟩).params
 else if op=22 then Aau res else if op=23 then [(3,1)] else []
def Abf (fs:List (List (Int × Int))) (ms:List Rd.Mth) (op n:Int):List (Int × Int) :=
 if op=0∨op=24∨op=7∨op=8∨op=9∨op=10 then [(1,0)] else if op=1 then [(2,0)] else if op=17 then [(Aci fs n).2]
 else if op=19 then [(3,n)] else if op=20∨op=21 then Aau (ms.getD n.toNat ⟨0,0,[],(0,0),0,0,[],[],[]⟩).result else []
theorem Ry (b:PBd) (bb B:Nat) (lm:List (Rd.Mth × MthV)) (fl:List (Value × List (Int × Int))) (pp op:Int) (n:Nat) (w:World) (h:Ru b w bb lm fl) (hn:n≤100000) (hB:∀ p∈lm,∀ g,p.2.params.ownBlock=some g→g<B) (hps:∀ p∈lm,p.1.params.length≤1000)
  (hN2:op=20∨op=21→n<lm.length) :
  Calls Tryz.prog 205 #[b.val,.agg #[.int .i64 pp,.int .i64 op,.int .i64 (n:Int)]] w fun e w'=>∃ a c,e=.returned (.slice a (Abo (fl.map Prod.snd) (lm.map Prod.fst) (b.r1,b.r2) op (n:Int)).length c)∧TyR w' (.slice a (Abo (fl.map Prod.snd) (lm.map Prod.fst) (b.r1,b.r2) op (n:Int)).length c) (Abo (fl.map Prod.snd) (lm.map Prod.fst) (b.r1,b.r2) op (n:Int))∧Re a w.heap.size B∧Below w.heap.size w w':=by
 have hFi:=fun w' (hb:Below w.heap.size w w')=>Mt (aa:=some ⟨b.tg,0,none⟩) (an:=b.T.length) (ac:=b.tc) fl bb b.ya b.yc (n:Int) w' (by have:=h.y14;omega) ⟨by omega,by omega⟩ h.yf (by have:=(h.below hb).fs;rw[h.yl]at this;exact this);have hNm:=fun (hl:n<lm.length) w' (hb:Below w.heap.size w w')=>Kg b bb lm fl n w' (h.below hb) hl;have hGv:=fun (m:PM) w'=>Kx m w';have hml:=h.ml;have hyl:=h.yl;have hmth:=h.ms;obtain⟨fa1,fl1,fc1,fa2,fl2,fc2,tg,tc,ya,yn,yc,cl,nm,pa,pl,pc,r1,r2,lo,st,ca,cn,cc,ha,hl,hc,ma,ml,mc,la,lc,T,L⟩:=b;simp only at hml hyl hmth;subst hml hyl;simp only[PBd.val,PM.val]at hFi hNm hGv ⊢;generalize hres:Abo (fl.map Prod.snd) (lm.map Prod.fst) (r1,r2) op (n:Int)=R;unfold Abo at hres;have hgd:∀ hl:n<lm.length,(lm.map Prod.fst).getD ((n:Nat):Int).toNat ⟨0,0,[],(0,0),0,0,[],[],[]⟩=lm[n].1:=fun hl=>by simp[List.getD_eq_getElem?_getD,hl]
 generalize Aci (fl.map Prod.snd) (n:Int)=FD at *;obtain⟨fo,ft1,ft2⟩:=FD;simp only at hFi hres;have HRES:=Ac hres;have HFI:=Ac hFi;have HNM:=Ac hNm;have HGV:=Ac hGv;have HGD:=Ac hgd;have HBB:=Ac hB;have HPS:=Ac hps;have hN2':=Ac hN2;clear hFi hNm hGv hres h hgd hB hps hN2;have hB0:=Ak w (O28 fa1 fl1 fc1 fa2 lm.length fc2 (some ⟨tg,0,none⟩) T.length tc ya fl.length yc cl nm pa pl pc r1 r2 lo st ca cn cc ha hl hc ma ml mc la L.length lc) (O17 pp op (n:Int));have U0:=Ah w (O28 fa1 fl1 fc1 fa2 lm.length fc2 (some ⟨tg,0,none⟩) T.length tc ya fl.length yc cl nm pa pl pc r1 r2 lo st ca cn cc ha hl hc ma ml mc la L.length lc) (O17 pp op (n:Int));have I0:=Ag w (O28 fa1 fl1 fc1 fa2 lm.length fc2 (some ⟨tg,0,none⟩) T.length tc ya fl.length yc cl nm pa pl pc r1 r2 lo st ca cn cc ha hl hc ma ml mc la L.length lc) (O17 pp op (n:Int));by_cases hop:op=7∨op=8∨op=9∨op=10∨op=13
 ·rcases hop with rfl|rfl|rfl|rfl|rfl
  all_goals
   have HE:Hid (R=[(1,0),(1,0)]):=by unfold Hid;rw[← Aa HRES];simp
   go_enter Tryz.func205,Tryz.ntmps205;go_wp2_with fail
   refine(Fq _).mono ?_;rintro e w1 ⟨rfl,hb1⟩;have hB1:=QB hB0 hb1;have hs1:=hB1.size;go_wp2_with fail
   refine(Fq _).mono ?_;rintro e w2 ⟨rfl,hb2⟩;have hB2:=hB1.trans (hb2.mono hs1);have hs2:=hB2.size;have hBf:=hB2.alloc hs2 (O24 1 0 1 0);go_wp2;go_ret;rw[Aa HE];exact⟨some ⟨w2.heap.size,0,none⟩,2,rfl,TyR.new2 w2 _ _ _ _,fun g o e=>(by simp at e;omega),hBf⟩
 have n7:(op==7)=false:=by simp;omega
 have n8:(op==8)=false:=by simp;omega
 have n9:(op==9)=false:=by simp;omega
 have n10:(op==10)=false:=by simp;omega
 have n13:(op==13)=false:=by simp;omega
 have i7:¬ (op=7∨op=8∨op=9∨op=10∨op=13):=hop;clear hop;by_cases hop:op=12∨op=25
 ·rcases hop with rfl|rfl
  all_goals
   have HE:Hid (R=[(1,0)]):=by unfold Hid;rw[← Aa HRES];simp
   go_enter Tryz.func205,Tryz.ntmps205;go_wp2_with fail
   refine(Fq _).mono ?_;rintro e w1 ⟨rfl,hb1⟩;have hB1:=QB hB0 hb1;have hs1:=hB1.size;have hBf:=hB1.alloc hs1 (O7 1 0);go_wp2;go_ret;rw[Aa HE];exact⟨some ⟨w1.heap.size,0,none⟩,1,rfl,TyR.new1 w1 _ _,fun g o e=>(by simp at e;omega),hBf⟩
 have n12:(op==12)=false:=by simp;omega
 have n25:(op==25)=false:=by simp;omega
 have i12:¬ (op=12∨op=25):=hop;clear hop;by_cases hop:op=14∨op=19
 ·rcases hop with rfl|rfl
  all_goals
   have HE:Hid (R=[(3,0)]):=by unfold Hid;rw[← Aa HRES];simp
   go_enter Tryz.func205,Tryz.ntmps205;go_wp2_with fail
   refine(Df 0 _).mono ?_;rintro e w1 ⟨rfl,hb1⟩;have hB1:=QB hB0 hb1;have hs1:=hB1.size;have hBf:=hB1.alloc hs1 (O7 3 0);go_wp2;go_ret;rw[Aa HE];exact⟨some ⟨w1.heap.size,0,none⟩,1,rfl,TyR.new1 w1 _ _,fun g o e=>(by simp at e;omega),hBf⟩
 have n14:(op==14)=false:=by simp;omega
 have n19:(op==19)=false:=by simp;omega
 have i14:¬ (op=14∨op=19):=hop;clear hop;by_cases hop:op=17
 ·subst hop;have HE:Hid (R=[(3,fo)]):=by unfold Hid;rw[← Aa HRES];simp
  go_enter Tryz.func205,Tryz.ntmps205;go_wp2_with fail
  refine(Aa HFI _ hB0).mono ?_;rintro e w1 ⟨rfl,hb1⟩;have hB1:=QB hB0 hb1;have hs1:=hB1.size;go_wp2_with fail
  refine(Df fo _).mono ?_;rintro e w2 ⟨rfl,hb2⟩;have hB2:=(hB1.alloc hs1 (O7 ft1 ft2)).trans (hb2.mono (by simp;omega));have hs2:=hB2.size;have hBf:=hB2.alloc hs2 (O7 3 fo);go_wp2;go_ret;rw[Aa HE];exact⟨some ⟨w2.heap.size,0,none⟩,1,rfl,TyR.new1 w2 _ _,fun g o e=>(by simp at e;omega),hBf⟩
 have n17:(op==17)=false:=by simp;omega
 have i17:¬ (op=17):=hop;clear hop;by_cases hop:op=18
 ·subst hop;have HE:Hid (R=[(3,fo),(ft1,ft2)]):=by unfold Hid;rw[← Aa HRES];simp
  go_enter Tryz.func205,Tryz.ntmps205;go_wp2_with fail
  refine(Aa HFI _ hB0).mono ?_;rintro e w1 ⟨rfl,hb1⟩;have hB1:=QB hB0 hb1;have hs1:=hB1.size;have TA:=Ad w1 (O7 ft1 ft2);have p0:(w1.alloc (O7 ft1 ft2)).cell? ⟨w1.heap.size,0,none⟩=some (.int .i64 ft1):=(Ab TA 0).trans rfl;have p1:(w1.alloc (O7 ft1 ft2)).cell? ⟨w1.heap.size,1,none⟩=some (.int .i64 ft2):=(Ab TA 1).trans rfl;have lT:=lt_of_block TA;go_wp2
  go_region_held3 (fun w'=>w'.cell? ⟨w1.heap.size,0,none⟩=some (.int .i64 ft1)∧w'.cell? ⟨w1.heap.size,1,none⟩=some (.int .i64 ft2)) (first | exact⟨p0,p1⟩ | exact⟨QC hb2 lT p0,QC hb2 lT p1⟩ | exact⟨QA (QL hb2 lT) (QC hb2 lT p0),QA (QL hb2 lT) (QC hb2 lT p1)⟩) (first | (go_at_call 123;refine(Df fo _).mono ?_;rintro e w2 ⟨rfl,hb2⟩))
  have hB2:=(hB1.alloc hs1 (O7 ft1 ft2)).drew.trans (hb2.mono (by simp;omega));have hs2:=hB2.size;have hBf:=hB2.alloc hs2 (O24 3 fo ft1 ft2);go_wp2;go_ret;rw[Aa HE];exact⟨some ⟨w2.heap.size,0,none⟩,2,rfl,TyR.new2 w2 _ _ _ _,fun g o e=>(by simp at e;omega),hBf⟩
 have n18:(op==18)=false:=by simp;omega
 have i18:¬ (op=18):=hop;clear hop;by_cases hop:op=20
 ·subst hop;have hl:=Aa hN2' (by simp);have hgd:=Aa HGD hl;have hpl:=Aa HPS lm[n] (List.getElem_mem hl);have HE:Hid (R=lm[n].1.params):=by unfold Hid;rw[← Aa HRES];rw[hgd];simp
  go_enter Tryz.func205,Tryz.ntmps205;go_wp2_with fail
  refine(Aa HNM hl _ hB0).mono ?_;rintro e w1 ⟨q,rfl,hq,hqp,hb1⟩;have hB1:=QB hB0 hb1;have hs1:=hB1.size;have hps:=TyR.of_tys hq.ps;have hpl2:=hq.pl;have hnb:=fun g=>Aa HBB lm[n] (List.getElem_mem hl) g;rw[← hqp]at hnb;obtain⟨q1,q2,q3,q4,q5,q6,q7,q8,q9,qa,qb,qc,qd,qe,qf,qg,qh,qi⟩:=q;simp only at hps hnb hpl2;subst hpl2;clear hq hqp;have hfd:∀ w:World,(Instr.field 94 (.agg #[.int .i64 q1,.int .i64 q2,.slice q3 lm[n].1.params.length q5,.int .i64 q6,.int .i64 q7,.int .i64 q8,.int .i64 q9,.slice qa qb qc,.slice qd qe qf,.slice qg qh qi]) 2).run Tryz.prog w=.ok (.slice q3 lm[n].1.params.length q5) w:=fun _=>by kernel_rfl
  go_wp2;go_ret;rw[Aa HE];exact⟨q3,q5,rfl,hps,fun g o e=>(by subst e;exact Or.inr (hnb g rfl)),hB1⟩
 have n20:(op==20)=false:=by simp;omega
 have i20:¬ (op=20):=hop;clear hop;by_cases hop:op=21
 ·subst hop;have hl:=Aa hN2' (by simp);have hgd:=Aa HGD hl;have hpl:=Aa HPS lm[n] (List.getElem_mem hl);have HE:Hid (R=(3,lm[n].1.cl)::lm[n].1.params):=by unfold Hid;rw[← Aa HRES];rw[hgd];simp
  go_enter Tryz.func205,Tryz.ntmps205;go_wp2_with fail
  refine(Aa HNM hl _ hB0).mono ?_;rintro e w1 ⟨q,rfl,hq,hqp,hb1⟩;have hB1:=QB hB0 hb1;have hs1:=hB1.size;have hps:=TyR.of_tys hq.ps;have hpl2:=hq.pl;have hcl2:=hq.cl;obtain⟨q1,q2,q3,q4,q5,q6,q7,q8,q9,qa,qb,qc,qd,qe,qf,qg,qh,qi⟩:=q;simp only at hps hpl2 hcl2;subst hpl2 hcl2;have MA:=Ad w1 (O20 lm[n].1.cl q2 q3 lm[n].1.params.length q5 q6 q7 q8 q9 qa qb qc qd qe qf qg qh qi);have ma:=Ab MA 0;have mb:=Ab MA 2;have lM:=lt_of_block MA;simp at ma mb;clear hq hqp;go_wp2_with fail
  refine(Df _ _).mono ?_;rintro e w2 ⟨rfl,hb2⟩;have hB2:=(hB1.alloc hs1 (O20 lm[n].1.cl q2 q3 lm[n].1.params.length q5 q6 q7 q8 q9 qa qb qc qd qe qf qg qh qi)).trans (hb2.mono (by simp;omega));have hs2:=hB2.size;have M2:=stay hb2 MA;have mc:=Ab M2 2;have lM2:=lt_of_block M2;simp at mc;have hps2:=((hps.below (QN (O20 lm[n].1.cl q2 q3 lm[n].1.params.length q5 q6 q7 q8 q9 qa qb qc qd qe qf qg qh qi))).below hb2).below (QN (O7 3 lm[n].1.cl));have hown0:(w2.alloc (O7 3 lm[n].1.cl)).ownsRow w.heap.size 39 2 (.slice (some ⟨w2.heap.size,0,none⟩) 1 1) [((3:Int),lm[n].1.cl)].length (Am [((3:Int),lm[n].1.cl)]):=⟨rfl,.inr ⟨w2.heap.size,1,_,rfl,hs2,Ad w2 _,by simp,by unfold maxLen;omega,rfl,rfl⟩⟩;go_wp2_with (at_builtin;refine Bw rfl _ _ rfl w.heap.size _ [((3:Int),lm[n].1.cl)] lm[n].1.params q3 lm[n].1.params.length q5 rfl hown0 rfl hps2 (by simp;omega) (by simp;omega) ?_)
  intro v' w3 hown3 hgrow;obtain⟨va,vc,rfl⟩:=Af hown3;have hB3:=(hB2.alloc hs2 (O7 3 lm[n].1.cl)).grown hgrow (by simp;omega) (fun j hj=>(hown0.lt j hj).1);have hlt3:=fun j hj=>(hown3.lt j hj).1;go_wp2;go_ret;rw[Aa HE];exact⟨va,vc,by simp,by simpa using Bl hown3 (by simp),fun g o e=>(by subst e;exact Or.inl (hlt3 g rfl)),hB3⟩
 have n21:(op==21)=false:=by simp;omega
 have i21:¬ (op=21):=hop;clear hop;by_cases hop:op=22
 ·subst hop;have HE:Hid (R=Aau (r1,r2)):=by unfold Hid;rw[← Aa HRES];simp
  go_enter Tryz.func205,Tryz.ntmps205;go_wp2_with fail
  refine(Aa HGV ⟨cl,nm,pa,pl,pc,r1,r2,lo,st,ca,cn,cc,ha,hl,hc,ma,ml,mc⟩ _).mono ?_;rintro e w1 ⟨a,c,rfl,ht,hnew,hb1⟩;have hB1:=QB hB0 hb1;go_wp2;go_ret;rw[Aa HE];exact⟨a,c,rfl,ht,fun g o e=>(by have:=hnew g o e;simp at this;omega),hB1⟩
 have n22:(op==22)=false:=by simp;omega
 have i22:¬ (op=22):=hop;clear hop;by_cases hop:op=23
 ·subst hop;have HE:Hid (R=[(3,1)]):=by unfold Hid;rw[← Aa HRES];simp
  go_enter Tryz.func205,Tryz.ntmps205;go_wp2_with fail
  refine(Df 1 _).mono ?_;rintro e w1 ⟨rfl,hb1⟩;have hB1:=QB hB0 hb1;have hs1:=hB1.size;have hBf:=hB1.alloc hs1 (O7 3 1);go_wp2;go_ret;rw[Aa HE];exact⟨some ⟨w1.heap.size,0,none⟩,1,rfl,TyR.new1 w1 _ _,fun g o e=>(by simp at e;omega),hBf⟩
 have n23:(op==23)=false:=by simp;omega
 have i23:¬ (op=23):=hop;clear hop;have HE:Hid (R=[]):=by unfold Hid;rw[← Aa HRES];simp[i7,i12,i14,i17,i18,i20,i21,i22,i23]
 go_enter Tryz.func205,Tryz.ntmps205;go_wp2;go_ret;rw[Aa HE];exact⟨none,0,rfl,TyR.nil _,fun g o e=>(by cases e),hB0⟩
theorem Pm (b:PBd) (bb B:Nat) (lm:List (Rd.Mth × MthV)) (fl:List (Value × List (Int × Int))) (pp op:Int) (n:Nat) (w:World) (h:Ru b w bb lm fl) (hn:n≤100000) (hB:∀ p∈lm,∀ g,p.2.params.ownBlock=some g→g<B) (hps:∀ p∈lm,p.1.params.length≤1000)
  (hN2:op=20∨op=21→n<lm.length) :
  Calls Tryz.prog 207 #[b.val,.agg #[.int .i64 pp,.int .i64 op,.int .i64 (n:Int)]] w fun e w'=>∃ a c,e=.returned (.slice a (Abf (fl.map Prod.snd) (lm.map Prod.fst) op (n:Int)).length c)∧TyR w' (.slice a (Abf (fl.map Prod.snd) (lm.map Prod.fst) op (n:Int)).length c) (Abf (fl.map Prod.snd) (lm.map Prod.fst) op (n:Int))∧Re a w.heap.size B∧Below w.heap.size w w':=by
 have hFi:=fun w' (hb:Below w.heap.size w w')=>Mt (aa:=some ⟨b.tg,0,none⟩) (an:=b.T.length) (ac:=b.tc) fl bb b.ya b.yc (n:Int) w' (by have:=h.y14;omega) ⟨by omega,by omega⟩ h.yf (by have:=(h.below hb).fs;rw[h.yl]at this;exact this);have hNm:=fun (hl:n<lm.length) w' (hb:Below w.heap.size w w')=>Kg b bb lm fl n w' (h.below hb) hl;have hGv:=fun (m:PM) w'=>Kx m w';have hml:=h.ml;have hyl:=h.yl;have hmth:=h.ms;obtain⟨fa1,fl1,fc1,fa2,fl2,fc2,tg,tc,ya,yn,yc,cl,nm,pa,pl,pc,r1,r2,lo,st,ca,cn,cc,ha,hl,hc,ma,ml,mc,la,lc,T,L⟩:=b;simp only at hml hyl hmth;subst hml hyl;simp only[PBd.val,PM.val]at hFi hNm hGv ⊢;generalize hres:Abf (fl.map Prod.snd) (lm.map Prod.fst) op (n:Int)=R;unfold Abf at hres;have hgd:∀ hl:n<lm.length,(lm.map Prod.fst).getD ((n:Nat):Int).toNat ⟨0,0,[],(0,0),0,0,[],[],[]⟩=lm[n].1:=fun hl=>by simp[List.getD_eq_getElem?_getD,hl]
 generalize Aci (fl.map Prod.snd) (n:Int)=FD at *;obtain⟨fo,ft1,ft2⟩:=FD;simp only at hFi hres;have HRES:=Ac hres;have HFI:=Ac hFi;have HNM:=Ac hNm;have HGV:=Ac hGv;have HGD:=Ac hgd;have HBB:=Ac hB;have HPS:=Ac hps;have hN2':=Ac hN2;clear hFi hNm hGv hres h hgd hB hps hN2;have hB0:=Ak w (O28 fa1 fl1 fc1 fa2 lm.length fc2 (some ⟨tg,0,none⟩) T.length tc ya fl.length yc cl nm pa pl pc r1 r2 lo st ca cn cc ha hl hc ma ml mc la L.length lc) (O17 pp op (n:Int));have U0:=Ah w (O28 fa1 fl1 fc1 fa2 lm.length fc2 (some ⟨tg,0,none⟩) T.length tc ya fl.length yc cl nm pa pl pc r1 r2 lo st ca cn cc ha hl hc ma ml mc la L.length lc) (O17 pp op (n:Int));have I0:=Ag w (O28 fa1 fl1 fc1 fa2 lm.length fc2 (some ⟨tg,0,none⟩) T.length tc ya fl.length yc cl nm pa pl pc r1 r2 lo st ca cn cc ha hl hc ma ml mc la L.length lc) (O17 pp op (n:Int));by_cases hop:op=0∨op=24∨op=7∨op=8∨op=9∨op=10
 ·rcases hop with rfl|rfl|rfl|rfl|rfl|rfl
  all_goals
   have HE:Hid (R=[(1,0)]):=by unfold Hid;rw[← Aa HRES];simp
   go_enter Tryz.func207,Tryz.ntmps207;go_wp2_with fail
   refine(Fq _).mono ?_;rintro e w1 ⟨rfl,hb1⟩;have hB1:=QB hB0 hb1;have hs1:=hB1.size;have hBf:=hB1.alloc hs1 (O7 1 0);go_wp2;go_ret;rw[Aa HE];exact⟨some ⟨w1.heap.size,0,none⟩,1,rfl,TyR.new1 w1 _ _,fun g o e=>(by simp at e;omega),hBf⟩
 have n0:(op==0)=false:=by simp;omega
 have n24:(op==24)=false:=by simp;omega
 have n7:(op==7)=false:=by simp;omega
 have n8:(op==8)=false:=by simp;omega
 have n9:(op==9)=false:=by simp;omega
 have n10:(op==10)=false:=by simp;omega
 have i0:¬ (op=0∨op=24∨op=7∨op=8∨op=9∨op=10):=hop;clear hop;by_cases hop:op=1
 ·subst hop;have HE:Hid (R=[(2,0)]):=by unfold Hid;rw[← Aa HRES];simp
  go_enter Tryz.func207,Tryz.ntmps207;go_wp2_with fail
  refine(Tg _).mono ?_;rintro e w1 ⟨rfl,hb1⟩;have hB1:=QB hB0 hb1;have hs1:=hB1.size;have hBf:=hB1.alloc hs1 (O7 2 0);go_wp2;go_ret;rw[Aa HE];exact⟨some ⟨w1.heap.size,0,none⟩,1,rfl,TyR.new1 w1 _ _,fun g o e=>(by simp at e;omega),hBf⟩
 have n1:(op==1)=false:=by simp;omega
 have i1:¬ (op=1):=hop;clear hop;by_cases hop:op=17
 ·subst hop;have HE:Hid (R=[(ft1,ft2)]):=by unfold Hid;rw[← Aa HRES];simp
  go_enter Tryz.func207,Tryz.ntmps207;go_wp2_with fail
  refine(Aa HFI _ hB0).mono ?_;rintro e w1 ⟨rfl,hb1⟩;have hB1:=QB hB0 hb1;have hs1:=hB1.size;have hBf:=(hB1.alloc hs1 (O7 ft1 ft2)).alloc (by simp;omega) (O7 ft1 ft2);go_wp2;go_ret;rw[Aa HE];exact⟨some ⟨w1.heap.size+1,0,none⟩,1,rfl,by simpa using TyR.new1 (w1.alloc (O7 ft1 ft2)) ft1 ft2,fun g o e=>(by simp at e;omega),hBf⟩
 have n17:(op==17)=false:=by simp;omega
 have i17:¬ (op=17):=hop;clear hop;by_cases hop:op=19
 ·subst hop;have HE:Hid (R=[(3,(n:Int))]):=by unfold Hid;rw[← Aa HRES];simp
  go_enter Tryz.func207,Tryz.ntmps207;go_wp2_with fail
  refine(Df (n:Int) _).mono ?_;rintro e w1 ⟨rfl,hb1⟩;have hB1:=QB hB0 hb1;have hs1:=hB1.size;have hBf:=hB1.alloc hs1 (O7 3 (n:Int));go_wp2;go_ret;rw[Aa HE];exact⟨some ⟨w1.heap.size,0,none⟩,1,rfl,TyR.new1 w1 _ _,fun g o e=>(by simp at e;omega),hBf⟩
 have n19:(op==19)=false:=by simp;omega
 have i19:¬ (op=19):=hop;clear hop;by_cases hop:op=20∨op=21
 ·rcases hop with rfl|rfl
  all_goals
   have hl:=Aa hN2' (by simp);have hgd:=Aa HGD hl;have hpl:=Aa HPS lm[n] (List.getElem_mem hl);have HE:Hid (R=Aau lm[n].1.result):=by unfold Hid;rw[← Aa HRES];rw[hgd];simp
   go_enter Tryz.func207,Tryz.ntmps207;go_wp2_with fail
   refine(Aa HNM hl _ hB0).mono ?_;rintro e w1 ⟨q,rfl,hq,hqp,hb1⟩;have hB1:=QB hB0 hb1;have hs1:=hB1.size;have hr1:=hq.r1;have hr2:=hq.r2;obtain⟨q1,q2,q3,q4,q5,q6,q7,q8,q9,qa,qb,qc,qd,qe,qf,qg,qh,qi⟩:=q;simp only at hr1 hr2;have hrr:Aau lm[n].1.result=Aau (q6,q7):=by rw[hr1,hr2]
   have HRR:=Ac hrr;clear hq hqp hr1 hr2 hrr hgd hpl;go_wp2_with fail
   refine(Aa HGV ⟨q1,q2,q3,q4,q5,q6,q7,q8,q9,qa,qb,qc,qd,qe,qf,qg,qh,qi⟩ _).mono ?_;rintro e w2 ⟨a,c,rfl,ht,hnew,hb2⟩;have hB2:=(hB1.alloc hs1 (O20 q1 q2 q3 q4 q5 q6 q7 q8 q9 qa qb qc qd qe qf qg qh qi)).trans (hb2.mono (by simp;omega));go_wp2;go_ret;rw[Aa HE,Aa HRR];exact⟨a,c,rfl,ht,fun g o e=>(by have:=hnew g o e;simp at this;omega),hB2⟩
 have n20:(op==20)=false:=by simp;omega
 have n21:(op==21)=false:=by simp;omega
 have i20:¬ (op=20∨op=21):=hop;clear hop;have HE:Hid (R=[]):=by unfold Hid;rw[← Aa HRES];simp[i0,i1,i17,i19,i20]
 go_enter Tryz.func207,Tryz.ntmps207;go_wp2;go_ret;rw[Aa HE];exact⟨none,0,rfl,TyR.nil _,fun g o e=>(by cases e),hB0⟩
theorem V4 (b:PBd) (bb k:Nat) (lm:List (Rd.Mth × MthV)) (fl:List (Value × List (Int × Int))) (c:BnC) (v:FrV) (q:Aai) (n:Nat) (w0 w:World) (hR:Ru b w0 bb lm fl) (hw:Below w0.heap.size w0 w) (h:BnAt w w0.heap.size k c v q) :
  Calls Tryz.prog 204 #[b.val,.pointer (some ⟨k,0,none⟩),.int .i64 (n:Int)] w fun e w'=>e=.returned (.tuple #[])∧∃ v',BnAt w' w0.heap.size k c v' (Aex c.T (Aa2 b.T (fl.map Prod.snd) (n:Int)) (Acj b.L (n:Int)) (n:Int) q)∧Bn k w v w' v':=by
 have hFO:=fun w' (hb:Below w0.heap.size w0 w')=>Nc b.T b.tg b.tc fl bb b.ya b.yc (n:Int) w' hR.y14 hR.tl hR.yf (hR.below hb).tr (by have:=(hR.below hb).fs;rw[hR.yl]at this;exact this);have hIN:=fun place w' (hb:Below w0.heap.size w0 w')=>Rb b bb lm fl place (n:Int) w' (hR.below hb);have hfl:(Aa2 b.T (fl.map Prod.snd) (n:Int)).length≤14000:=by
  unfold Aa2;have:=Fn b.T (fl.map Prod.snd) (n:Int) (fun p hp=>by obtain⟨x,hx,rfl⟩:=List.mem_map.1 hp;exact hR.yf x hx) (fl.map Prod.snd).length;have h14:=hR.y14;rw[List.length_map]at this ⊢;omega
 have hml:=hR.ml;have hyl:=hR.yl;obtain⟨fa1,fl1,fc1,fa2,fl2,fc2,tg,tc,ya,yn,yc,cl,nm,pa,pl,pc,r1,r2,lo,st,ca,cn,cc,ha,hl,hc,ma,ml,mc,la,lc,T,L⟩:=b;simp only at hml hyl;subst hml hyl;simp only[PBd.val]at hFO hIN hfl ⊢;unfold Aex;generalize Aa2 T (fl.map Prod.snd) (n:Int)=want at *;have hIN2:∀ place w',Below w0.heap.size w0 w'→_:=hIN;generalize hisn:Acj L (n:Int)=isN at *;have HFO:=Ac hFO;have HIN:=Ac hIN;clear hFO hIN hIN2 hR hisn;have hA:=h.alloc (O28 fa1 fl1 fc1 fa2 lm.length fc2 (some ⟨tg,0,none⟩) T.length tc ya fl.length yc cl nm pa pl pc r1 r2 lo st ca cn cc ha hl hc ma ml mc la L.length lc);have GA:=(Bn.refl k w v).alloc (O28 fa1 fl1 fc1 fa2 lm.length fc2 (some ⟨tg,0,none⟩) T.length tc ya fl.length yc cl nm pa pl pc r1 r2 lo st ca cn cc ha hl hc ma ml mc la L.length lc);have UA:=Ad w (O28 fa1 fl1 fc1 fa2 lm.length fc2 (some ⟨tg,0,none⟩) T.length tc ya fl.length yc cl nm pa pl pc r1 r2 lo st ca cn cc ha hl hc ma ml mc la L.length lc);have hfU:v.free k w.heap.size:=h.new (Nat.le_refl _);have hwA:=hw.alloc (by exact hw.size) (O28 fa1 fl1 fc1 fa2 lm.length fc2 (some ⟨tg,0,none⟩) T.length tc ya fl.length yc cl nm pa pl pc r1 r2 lo st ca cn cc ha hl hc ma ml mc la L.length lc);have hkl:=h.k_lt;generalize htb:Zu (Abb c.T want q)=tb;have HTB:=Ac htb;obtain⟨⟨t1,t2⟩,q2⟩:=tb;simp only;clear htb;unfold Ad0;by_cases ht4:t1=4
 ·subst ht4;rw[if_neg (show ¬ ((4:Int),t2).1≠4 by simp)];have hIN2:=fun w' hb=>Aa HIN t2 w' hb;cases hin:isN t2 with
  | false =>
   rw[if_pos rfl];rw[hin]at hIN2;have HI:=Ac hIN2;clear hIN2 hin HIN;go_enter Tryz.func204,Tryz.ntmps204;go_wp2_with fail
   refine(Aa HFO _ hwA).mono ?_;rintro e w1 ⟨xa,xc,rfl,ht1,hb1⟩;have h1:=hA.below hb1;have G1:=GA.trans (Bn.of_below v hb1);have U1:=stay hb1 UA;have hTF:TyF w1 k v xa want.length xc want:=⟨Bl ht1 rfl,fun g o e=>(by subst e;exact hA.new (ht1.lt g rfl).1)⟩;have l1:=lt_of_block U1;clear hb1 ht1;go_wp2_with fail
   refine(Ez w1 w0.heap.size k c v q xa want.length xc want h1 hTF (by omega)).mono ?_;rintro e w2 ⟨rfl,v2,h2,G2⟩;have U2:=G2.stay hfU U1;have hfU2:=G2.free hfU l1;have l2:=lt_of_block U2;go_wp2_with fail
   refine(Db w2 w0.heap.size k c v2 _ h2).mono ?_;rw[Aa HTB];rintro e w3 ⟨rfl,v3,h3,G3⟩;simp only at h3;have U3:=G3.stay hfU2 U2;have hfU3:=G3.free hfU2 l2;have G03:=(G1.trans G2).trans G3;have hw3:=hw.trans (G03.low h);have hs3:=hw3.size;have hX3:=h3.new (Nat.le_refl _);have c5:=Ab h3.blk 5;have f5:=Ae h3.blk 5;have lk3:=h3.k_lt;simp at c5;clear U1 U2 hfU hfU2 G1 G2 G3 h1 h2 hA GA UA hwA hTF l1 l2;obtain⟨m0,m1,m2,m3,m4,m5,m6,m7,m8,m9,m10,m11,m12,m13,m14⟩:=Gm U3;simp at m0 m1 m2 m3 m4 m5 m6 m7 m8 m9 m10 m11 m12 m13 m14;have lU:=lt_of_block U3;have hBX:=hw3.alloc hs3 (O7 4 t2);go_wp2_with fail
   refine(Aa HI _ hBX).mono ?_;rintro e w4 ⟨rfl,hb4⟩;have h4:=(h3.alloc (O7 4 t2)).below hb4;have G4:=(G03.alloc (O7 4 t2)).trans (Bn.of_below _ hb4);have d5:=Ab h4.blk 5;have e5:=Ae h4.blk 5;have lk4:=h4.k_lt;simp at d5;go_wp2;refine bodyPost_ret (v:=.tuple #[]) (by simp[results,Tryz.results204,go_sem]) rfl ?_;exact⟨rfl,_,h4.brk,G4.brk⟩
  | true =>
   rw[if_neg (by simp)];rw[hin]at hIN2;have HI:=Ac hIN2;clear hIN2 hin HIN;go_enter Tryz.func204,Tryz.ntmps204;go_wp2_with fail
   refine(Aa HFO _ hwA).mono ?_;rintro e w1 ⟨xa,xc,rfl,ht1,hb1⟩;have h1:=hA.below hb1;have G1:=GA.trans (Bn.of_below v hb1);have U1:=stay hb1 UA;have hTF:TyF w1 k v xa want.length xc want:=⟨Bl ht1 rfl,fun g o e=>(by subst e;exact hA.new (ht1.lt g rfl).1)⟩;have l1:=lt_of_block U1;clear hb1 ht1;go_wp2_with fail
   refine(Ez w1 w0.heap.size k c v q xa want.length xc want h1 hTF (by omega)).mono ?_;rintro e w2 ⟨rfl,v2,h2,G2⟩;have U2:=G2.stay hfU U1;have hfU2:=G2.free hfU l1;have l2:=lt_of_block U2;go_wp2_with fail
   refine(Db w2 w0.heap.size k c v2 _ h2).mono ?_;rw[Aa HTB];rintro e w3 ⟨rfl,v3,h3,G3⟩;simp only at h3;have U3:=G3.stay hfU2 U2;have hfU3:=G3.free hfU2 l2;have G03:=(G1.trans G2).trans G3;have hw3:=hw.trans (G03.low h);have hs3:=hw3.size;have hX3:=h3.new (Nat.le_refl _);have c5:=Ab h3.blk 5;have f5:=Ae h3.blk 5;have lk3:=h3.k_lt;simp at c5;clear U1 U2 hfU hfU2 G1 G2 G3 h1 h2 hA GA UA hwA hTF l1 l2;obtain⟨m0,m1,m2,m3,m4,m5,m6,m7,m8,m9,m10,m11,m12,m13,m14⟩:=Gm U3;simp at m0 m1 m2 m3 m4 m5 m6 m7 m8 m9 m10 m11 m12 m13 m14;have lU:=lt_of_block U3;have hBX:=hw3.alloc hs3 (O7 4 t2);have XA:=Ad w3 (O7 4 t2);go_wp2_with fail
   refine(Aa HI _ hBX).mono ?_;rintro e w4 ⟨rfl,hb4⟩;have h4:=(h3.alloc (O7 4 t2)).below hb4;have G4:=(G03.alloc (O7 4 t2)).trans (Bn.of_below _ hb4);have X4:=stay hb4 XA;have p0:w4.cell? ⟨w3.heap.size,0,none⟩=some (.int .i64 4):=(Ab X4 0).trans rfl;have p1:w4.cell? ⟨w3.heap.size,1,none⟩=some (.int .i64 t2):=(Ab X4 1).trans rfl;have lX:=lt_of_block X4;clear hb4;go_wp2
   go_region_held3 (fun w'=>w'.cell? ⟨w3.heap.size,0,none⟩=some (.int .i64 4)∧w'.cell? ⟨w3.heap.size,1,none⟩=some (.int .i64 t2)) (first | exact⟨p0,p1⟩ | exact⟨QC hb5 lX p0,QC hb5 lX p1⟩ | exact⟨(Ab X6 0).trans rfl,(Ab X6 1).trans rfl⟩) (first | (go_at_call 123;refine(Df (n:Int) _).mono ?_;rintro e w5 ⟨rfl,hb5⟩) | (go_at_call 202;refine(Kr w5 w0.heap.size k c v3 q2 4 t2 3 (n:Int) (h4.drew.below hb5)).mono ?_;rintro e w6 ⟨rfl,v6,h6,G6⟩;have X6:=G6.stay hX3 (stay hb5 (show w4.drew.heap[w3.heap.size]?=_ from X4))))
   go_wp2
   go_end0
   exact⟨rfl,v6,h6,(G4.drew.trans (Bn.of_below _ hb5)).trans G6⟩
 ·rw[if_pos (show (t1,t2).1≠4 from ht4)];have ht4':(t1 != 4)=true:=by simp[ht4]
  clear ht4 HIN;go_enter Tryz.func204,Tryz.ntmps204;go_wp2_with fail
  refine(Aa HFO _ hwA).mono ?_;rintro e w1 ⟨xa,xc,rfl,ht1,hb1⟩;have h1:=hA.below hb1;have G1:=GA.trans (Bn.of_below v hb1);have U1:=stay hb1 UA;have hTF:TyF w1 k v xa want.length xc want:=⟨Bl ht1 rfl,fun g o e=>(by subst e;exact hA.new (ht1.lt g rfl).1)⟩;have l1:=lt_of_block U1;clear hb1 ht1;go_wp2_with fail
  refine(Ez w1 w0.heap.size k c v q xa want.length xc want h1 hTF (by omega)).mono ?_;rintro e w2 ⟨rfl,v2,h2,G2⟩;have U2:=G2.stay hfU U1;have hfU2:=G2.free hfU l1;have l2:=lt_of_block U2;go_wp2_with fail
  refine(Db w2 w0.heap.size k c v2 _ h2).mono ?_;rw[Aa HTB];rintro e w3 ⟨rfl,v3,h3,G3⟩;simp only at h3;have U3:=G3.stay hfU2 U2;have hfU3:=G3.free hfU2 l2;have G03:=(G1.trans G2).trans G3;have hw3:=hw.trans (G03.low h);have hs3:=hw3.size;have hX3:=h3.new (Nat.le_refl _);have c5:=Ab h3.blk 5;have f5:=Ae h3.blk 5;have lk3:=h3.k_lt;simp at c5;clear U1 U2 hfU hfU2 G1 G2 G3 h1 h2 hA GA UA hwA hTF l1 l2;go_wp2;refine bodyPost_ret (v:=.tuple #[]) (by simp[results,Tryz.results204,go_sem]) rfl ?_;exact⟨rfl,_,h3.brk.alloc _,G03.brk.alloc _⟩
end Go.Proofs.YtcefiamkoincoaaGreat
