/- a part of the proof -/
import Derived.Deep.CutRange
import Derived.Deep.RegionHeld3
import Derived.Maps.AppendAt
import Derived.Test.YtcefiamkoincoaaGreatPk16
set_option maxRecDepth 100000
set_option maxHeartbeats 40000000
set_option linter.unusedVariables false
set_option linter.unusedSimpArgs false
namespace Go.Proofs.YtcefiamkoincoaaGreat
open Go.RowKit
variable {aa:Option Addr}{an ac:Nat}
def FldsIn (w:World) (b:Nat) (v:Value) (l:List (Value × List (Int × Int))):Prop:=w.ownsRow b 48 1 v l.length (l.map Prod.fst)∧∀ p∈l,TyR w p.1 p.2
theorem FldsIn.below {w w':World}{b:Nat}{v:Value}{l:List (Value × List (Int × Int))} (h:FldsIn w b v l) (hb:Below w.heap.size w w'):FldsIn w' b v l :=
 ⟨Av h.1 (Kp.of_below (e:=none) hb) (by decide),fun p hp=>(h.2 p hp).below hb⟩
theorem FldsIn.at {w:World}{b:Nat}{a:Option Addr}{n c:Nat}{l:List (Value × List (Int × Int))} (h:FldsIn w b (.slice a n c) l) {k:Nat} (hk:k<l.length) :
  ∃ g,a=some ⟨g,0,none⟩∧g<w.heap.size∧∃ xa xc,w.cell? ⟨g,k,none⟩=some (.slice xa l[k].2.length xc)∧TyR w (.slice xa l[k].2.length xc) l[k].2:=by
 obtain⟨g,hg,hlt,_,hcell⟩:=Ao h.1 (by omega);have ht:=h.2 l[k] (List.getElem_mem hk);obtain⟨xa,xc,hv⟩:=ht.shape;refine⟨g,hg,hlt,xa,xc,?_,hv ▸ ht⟩;rw[hcell k (by simpa using hk),List.getElem?_map,List.getElem?_eq_getElem hk,← hv];rfl
theorem Uz (l:List (Value × List (Int × Int))) (bb:Nat) (ya:Option Addr) (yc:Nat) (n:Int) (w:World) (hl:l.length≤1000) (hn:0≤n∧n≤100000) (hf:∀ p∈l,p.2.length≤1000) (hF:FldsIn w bb (.slice ya l.length yc) l) :
  Calls Tryz.prog 266 #[.agg #[.slice aa an ac,.slice ya l.length yc],.int .i64 n] w fun e w' =>
   e=.returned (.tuple #[.int .i64 (Aaz n (l.map Prod.snd) 0 0).1,.int .i64 (Aaz n (l.map Prod.snd) 0 0).2])∧Below w.heap.size w w':=by
 generalize hr:Aaz n (l.map Prod.snd) 0 0=r;have HR:Hid (Aaz n ((l.map Prod.snd).drop 0) ((0:Nat):Int) ((0:Nat):Int)=r):=hr;clear hr;have hB0:Below w.heap.size w (w.alloc (O2 aa an ac ya l.length yc)):=QN _;go_enter Tryz.func266,Tryz.ntmps266;go_wp2
 go_loopw [6,12] (fun f v wr=>∃ (k s:Nat),k≤l.length∧s≤1000*k∧f=.int .i64 (s:Int)∧v=.int .i64 (k:Int)∧Hid (Aaz n ((l.map Prod.snd).drop k) (k:Int) (s:Int)=r)∧wr=w.alloc (O2 aa an ac ya l.length yc))
  (fun _ v _=>l.length-(intOf v).toNat)
 case atStart=>exact⟨0,0,by omega,by omega,rfl,rfl,HR,rfl⟩
 case round =>
  clear HR;obtain⟨k,s,hk,hs,rfl,rfl,HR,rfl⟩:=hrel;by_cases hkn:k<l.length
  ·obtain⟨g,rfl,hglt,xa,xc,y0,-⟩:=(hF.below hB0).at hkn;have hd:(l.map Prod.snd).drop k=l[k].2::(l.map Prod.snd).drop (k+1):=by rw[List.drop_eq_getElem_cons (by simpa using hkn)];simp
   have hr:=Aa HR;have hfk:=hf l[k] (List.getElem_mem hkn);rw[hd,Aaz]at hr;generalize l[k].2=own at *;have kb:(k:Int)<(l.length:Int):=by omega
   clear HR hd;by_cases h1:(s:Int)≤n
   ·by_cases h2:n-(s:Int)<(own.length:Int)
    ·rw[if_pos ⟨h1,h2⟩]at hr;have HE:=Ac hr;clear hr;go_wp2;go_ret2;exact⟨by rw[← Aa HE];rfl,hB0⟩
    ·rw[if_neg (by omega)]at hr;have HG:Hid (Aaz n ((l.map Prod.snd).drop (k+1)) ((k+1:Nat):Int) ((s+own.length:Nat):Int)=r):=by unfold Hid;rw[← hr];push_cast;rfl
     clear hr;go_wp2
     go_roundw
     case rel=>exact⟨k+1,s+own.length,by omega,by omega,by go_num,by go_num,HG,trivial⟩
     case measure=>simp[intOf];omega
   ·rw[if_neg (by omega)]at hr;have HG:Hid (Aaz n ((l.map Prod.snd).drop (k+1)) ((k+1:Nat):Int) ((s+own.length:Nat):Int)=r):=by unfold Hid;rw[← hr];push_cast;rfl
    clear hr;go_wp2
    go_roundw
    case rel=>exact⟨k+1,s+own.length,by omega,by omega,by go_num,by go_num,HG,trivial⟩
    case measure=>simp[intOf];omega
  ·have hr:=Aa HR;rw[List.drop_eq_nil_of_le (by simp;omega),Aaz]at hr;have HE:=Ac hr;have kb:¬ (k:Int)<(l.length:Int):=by omega
   clear hr HR;go_wp2;go_ret2;exact⟨by rw[← Aa HE];rfl,hB0⟩
theorem Ya (l:List (Value × List (Int × Int))) (bb:Nat) (ya:Option Addr) (yc:Nat) (c:Int) (w:World) (_hl:l.length≤1000) (hF:FldsIn w bb (.slice ya l.length yc) l) :
  Calls Tryz.prog 267 #[.agg #[.slice aa an ac,.slice ya l.length yc],.int .i64 c] w fun e w' =>
   ∃ xa xc,e=.returned (.slice xa (Adv (l.map Prod.snd) c).length xc)∧TyR w' (.slice xa (Adv (l.map Prod.snd) c).length xc) (Adv (l.map Prod.snd) c)∧Below w.heap.size w w':=by
 have hB0:Below w.heap.size w (w.alloc (O2 aa an ac ya l.length yc)):=QN _;unfold Adv;by_cases h1:c<0
 ·rw[if_pos h1];go_enter Tryz.func267,Tryz.ntmps267;go_wp2;go_ret;exact⟨none,0,rfl,TyR.nil _,hB0⟩
 ·rw[if_neg h1];by_cases h2:(l.length:Int)≤c
  ·have e:(l.map Prod.snd).getD c.toNat []=[]:=by rw[List.getD_eq_getElem?_getD,List.getElem?_eq_none (by simp;omega)];rfl
   rw[e];go_enter Tryz.func267,Tryz.ntmps267;go_wp2;go_ret;exact⟨none,0,rfl,TyR.nil _,hB0⟩
  ·obtain⟨q,rfl⟩:=Int.eq_ofNat_of_zero_le (show 0≤c by omega);have hq:q<l.length:=by omega
   obtain⟨g,rfl,hglt,xa,xc,y0,ht⟩:=(hF.below hB0).at hq;have e:(l.map Prod.snd).getD ((q:Nat):Int).toNat []=l[q].2:=by simp[List.getD_eq_getElem?_getD,hq]
   rw[e];generalize l[q].2=own at *;have kb:(q:Int)<(l.length:Int):=by omega
   clear e;go_enter Tryz.func267,Tryz.ntmps267;go_wp2;go_ret;exact⟨xa,xc,rfl,ht,hB0⟩
theorem Mt (l:List (Value × List (Int × Int))) (bb:Nat) (ya:Option Addr) (yc:Nat) (n:Int) (w:World) (hl:l.length≤1000) (hn:0≤n∧n≤100000) (hf:∀ p∈l,p.2.length≤1000) (hF:FldsIn w bb (.slice ya l.length yc) l) :
  Calls Tryz.prog 242 #[.agg #[.slice aa an ac,.slice ya l.length yc],.int .i64 n] w fun e w' =>
   e=.returned (.tuple #[.int .i64 (Aci (l.map Prod.snd) n).1,.agg #[.int .i64 (Aci (l.map Prod.snd) n).2.1,.int .i64 (Aci (l.map Prod.snd) n).2.2]])∧Below w.heap.size w w':=by
 have hO:=fun w' (h:Below w.heap.size w w')=>Uz (aa:=aa) (an:=an) (ac:=ac) l bb ya yc n w' hl hn hf (hF.below h);have hW:=fun c w' (h:Below w.heap.size w w')=>Ya (aa:=aa) (an:=an) (ac:=ac) l bb ya yc c w' hl (hF.below h);unfold Aci;generalize Aaz n (l.map Prod.snd) 0 0=o at *;obtain⟨o1,o2⟩:=o;have hW:=hW o1;simp only at hO hW ⊢;generalize Adv (l.map Prod.snd) o1=own at *;have HO:=Ac hO;have HW:=Ac hW;clear hO hW hF;have hB0:=Ak w (O2 aa an ac ya l.length yc) (O7 0 0);have T0:=Ah w (O2 aa an ac ya l.length yc) (O7 0 0);have R0:=Ag w (O2 aa an ac ya l.length yc) (O7 0 0);generalize hA:(if o2<0 then ((-1:Int),((0:Int),(0:Int))) else if (own.length:Int)≤o2 then (-1,(0,0)) else (o1,own.getD o2.toNat (0,0)))=A
 by_cases h1:o2<0
 ·rw[if_pos h1]at hA;subst hA;go_enter Tryz.func242,Tryz.ntmps242;go_wp2_with fail
  refine(Aa HO _ hB0).mono ?_;rintro e w1 ⟨rfl,hb1⟩;have hB1:=QB hB0 hb1;have T1:=stay hb1 T0;have R1:=stay hb1 R0;obtain⟨t0,t1⟩:=cl2 T1;simp at t0 t1;clear hb1 T0 R0;go_wp2_with fail
  refine(Aa HW _ hB1).mono ?_;rintro e w2 ⟨xa,xc,rfl,ht,hb2⟩;have hB2:=QB hB1 hb2;have R2:=stay hb2 R1;obtain⟨r0,r1⟩:=cl2 R2;obtain⟨q0,q1⟩:=fr2 R2;simp at r0 r1;clear hb2 T1 R1 t0 t1;go_wp2;refine bodyPost_ret (v:=.tuple #[.int .i64 (-1),.agg #[.int .i64 0,.int .i64 0]]) (by simp[results,Tryz.results242,go_sem,r0,r1]) rfl ?_;exact⟨rfl,by repeat (first | refine Below.setCell ?_ (by simp) _ | exact hB2)⟩
 ·rw[if_neg h1]at hA;obtain⟨q,rfl⟩:=Int.eq_ofNat_of_zero_le (show 0≤o2 by omega);by_cases h2:(own.length:Int)≤(q:Int)
  ·rw[if_pos h2]at hA;subst hA;go_enter Tryz.func242,Tryz.ntmps242;go_wp2_with fail
   refine(Aa HO _ hB0).mono ?_;rintro e w1 ⟨rfl,hb1⟩;have hB1:=QB hB0 hb1;have T1:=stay hb1 T0;have R1:=stay hb1 R0;obtain⟨t0,t1⟩:=cl2 T1;simp at t0 t1;clear hb1 T0 R0;go_wp2_with fail
   refine(Aa HW _ hB1).mono ?_;rintro e w2 ⟨xa,xc,rfl,ht,hb2⟩;have hB2:=QB hB1 hb2;have R2:=stay hb2 R1;obtain⟨r0,r1⟩:=cl2 R2;obtain⟨q0,q1⟩:=fr2 R2;simp at r0 r1;clear hb2 T1 R1 t0 t1;go_wp2;refine bodyPost_ret (v:=.tuple #[.int .i64 (-1),.agg #[.int .i64 0,.int .i64 0]]) (by simp[results,Tryz.results242,go_sem,r0,r1]) rfl ?_;exact⟨rfl,by repeat (first | refine Below.setCell ?_ (by simp) _ | exact hB2)⟩
  ·rw[if_neg h2]at hA;have hq:q<own.length:=by omega
   have e:own.getD ((q:Nat):Int).toNat (0,0)=own[q]:=by simp[List.getD_eq_getElem?_getD,hq]
   rw[e]at hA;subst hA;have kb:(q:Int)<(own.length:Int):=by omega
   clear e h1;go_enter Tryz.func242,Tryz.ntmps242;go_wp2_with fail
   refine(Aa HO _ hB0).mono ?_;rintro e w1 ⟨rfl,hb1⟩;have hB1:=QB hB0 hb1;have T1:=stay hb1 T0;have R1:=stay hb1 R0;obtain⟨t0,t1⟩:=cl2 T1;simp at t0 t1;clear hb1 T0 R0;go_wp2_with fail
   refine(Aa HW _ hB1).mono ?_;rintro e w2 ⟨xa,xc,rfl,ht,hb2⟩;obtain⟨g,o,rfl,hg,hat⟩:=ht.at (by omega);obtain⟨y0,y1⟩:=hat q hq;have hB2:=QB hB1 hb2;have R2:=stay hb2 R1;obtain⟨r0,r1⟩:=cl2 R2;obtain⟨q0,q1⟩:=fr2 R2;simp at r0 r1;clear hb2 T1 R1 t0 t1 hat;go_wp2
   go_region
   all_goals
    go_wp2;refine bodyPost_ret (v:=.tuple #[.int .i64 o1,.agg #[.int .i64 own[q].1,.int .i64 own[q].2]]) (by simp[results,Tryz.results242,go_sem,r0,r1]) rfl ?_;exact⟨rfl,by repeat (first | refine Below.drew ?_ | refine Below.setCell ?_ (by simp) _ | exact hB2)⟩
theorem Fn (T:List Int) (fs:List (List (Int × Int))) (c:Int) (hf:∀ p∈fs,p.length≤1000):∀ d:Nat,(Aa3 T fs c d).length≤1000*d
 | 0=>by simp[Aa3]
 | d+1=>by
  rw[Aa3,List.length_append];have ih:=Fn T fs c hf d;have:(fs.getD d []).length≤1000:=by
   rw[List.getD_eq_getElem?_getD];rcases h:fs[d]? with _ | x
   ·simp
   ·simp;exact hf x (List.mem_of_getElem? h)
  split
  ·omega
  ·rw[List.length_nil];omega
theorem Nc (T:List Int) (tg tc:Nat) (l:List (Value × List (Int × Int))) (bb:Nat) (ya:Option Addr) (yc:Nat) (c:Int) (w:World) (hl:l.length≤14) (hTl:T.length≤1000) (hf:∀ p∈l,p.2.length≤1000) (hT:TreeIn w tg T) (hF:FldsIn w bb (.slice ya l.length yc) l) :
  Calls Tryz.prog 239 #[.agg #[.slice (some ⟨tg,0,none⟩) T.length tc,.slice ya l.length yc],.int .i64 c] w fun e w' =>
   ∃ xa xc,e=.returned (.slice xa (Aa2 T (l.map Prod.snd) c).length xc)∧TysAt w' w.heap.size (.slice xa (Aa2 T (l.map Prod.snd) c).length xc) (Aa2 T (l.map Prod.snd) c)∧Below w.heap.size w w':=by
 have hfl:∀ d,(Aa3 T (l.map Prod.snd) c d).length≤1000*d:=Fn T (l.map Prod.snd) c (fun p hp=>by obtain⟨q,hq,rfl⟩:=List.mem_map.1 hp;exact hf q hq);have HN:∀ k,Aa3 T (l.map Prod.snd) c (k+1)=Aa3 T (l.map Prod.snd) c k++(if Tr.within T c (k:Int)=true then (l.map Prod.snd).getD k [] else []):=fun k=>rfl
 have H0:Aa3 T (l.map Prod.snd) c 0=[]:=rfl;have HE:Hid (Aa2 T (l.map Prod.snd) c=Aa3 T (l.map Prod.snd) c l.length):=by unfold Hid Aa2;rw[List.length_map]
 rw[Aa HE];generalize Aa3 T (l.map Prod.snd) c=FT at *;clear HE;have hB0:Below w.heap.size w (w.alloc (O2 (some ⟨tg,0,none⟩) T.length tc ya l.length yc)):=QN _;have T0:=Ad w (O2 (some ⟨tg,0,none⟩) T.length tc ya l.length yc);go_enter Tryz.func239,Tryz.ntmps239;go_wp2
 go_loopw [5,11] (fun u v wr=>∃ k:Nat,k≤l.length∧v=.int .i64 (k:Int)∧wr.ownsRow w.heap.size 39 2 u (FT k).length (Am (FT k))∧Below w.heap.size w wr ∧
   wr.heap[w.heap.size]?=some (O2 (some ⟨tg,0,none⟩) T.length tc ya l.length yc))
  (fun _ v _=>l.length-(intOf v).toNat)
 case atStart=>exact⟨0,by omega,rfl,by rw[H0];exact World.ownsRow_nil _ _ _ _,hB0,T0⟩
 case round =>
  clear hB0 T0;obtain⟨k,hk,rfl,hown,hB,hC⟩:=hrel;have hBs:=hB.size;obtain⟨ua,uc,rfl⟩:=Af hown;by_cases hkn:k<l.length
  ·have hFr:=hF.below hB;obtain⟨g,rfl,hglt,xa,xc,y0,ht⟩:=hFr.at hkn;have hfk:=hf l[k] (List.getElem_mem hkn);have hn:=HN k;have e:(l.map Prod.snd).getD k []=l[k].2:=by simp[List.getD_eq_getElem?_getD,hkn]
   rw[e]at hn;generalize l[k].2=own at *;have hfk2:=hfl k;have kb:(k:Int)<(l.length:Int):=by omega
   obtain⟨t0,t1⟩:=cl2 hC;simp at t0 t1;have hW:=Fs (ya:=some ⟨g,0,none⟩) (yn:=l.length) (yc:=yc) T tg tc c (k:Int) wr hTl (hT.below hB);cases hwi:Tr.within T c (k:Int) with
   | true =>
    rw[hwi]at hW hn;rw[if_pos rfl]at hn;have HW:=Ac hW;have HNN:=Ac hn;clear hW hn hwi e;go_wp2_with fail
    refine(Aa HW).mono ?_;rintro e w1 ⟨rfl,hb1⟩;have hB1:=hB.trans (hb1.mono hBs);have hs1:=hB1.size;have hC1:=stay hb1 hC;have hown1:=Av hown (Kp.of_below (e:=none) hb1) (by decide);have ht1:=ht.below hb1;clear hb1 hown ht;go_wp2_with (at_builtin;refine Bw rfl _ _ rfl w.heap.size _ (FT k) own xa own.length xc rfl hown1 rfl ht1 (by omega) (by omega) ?_)
    intro v' w2 hown2 hgrow;have hB2:=hB1.grown hgrow (by omega) (fun j hj=>(hown1.lt j hj).1);have hC2:=Kp.of_grown (b:=0) hgrow hown1 _ _ _ (Nat.zero_le _) hC1 (by decide);have hown3:w2.ownsRow w.heap.size 39 2 v' (FT (k+1)).length (Am (FT (k+1))):=by rw[Aa HNN,List.length_append];exact hown2
    clear hgrow hown1 hown2;go_wp2
    go_roundw
    case rel=>exact⟨k+1,by omega,by go_num,hown3,hB2,hC2⟩
    case measure=>simp[intOf];omega
   | false =>
    rw[hwi]at hW hn;rw[if_neg (by simp),List.append_nil]at hn;have HW:=Ac hW;have HNN:=Ac hn;clear hW hn hwi e;go_wp2_with fail
    refine(Aa HW).mono ?_;rintro e w1 ⟨rfl,hb1⟩;have hB1:=hB.trans (hb1.mono hBs);have hC1:=stay hb1 hC;have hown1:w1.ownsRow w.heap.size 39 2 (.slice ua (FT k).length uc) (FT (k+1)).length (Am (FT (k+1))):=by rw[Aa HNN];exact Av hown (Kp.of_below (e:=none) hb1) (by decide)
    clear hb1;go_wp2
    go_roundw
    case rel=>exact⟨k+1,by omega,by go_num,hown1,hB1,hC1⟩
    case measure=>simp[intOf];omega
  ·obtain rfl:k=l.length:=by omega
   have kb:¬ (l.length:Int)<(l.length:Int):=by omega
   go_wp2;go_ret;exact⟨ua,uc,rfl,hown,hB⟩
structure BnC where
 tg:Nat
 tc:Nat
 ya:Option Addr
 yn:Nat
 yc:Nat
 hi:Int
 T:List Int
abbrev FrV.lv (v:FrV):Value:=.slice v.la v.ln v.lc
abbrev FrV.sv (v:FrV):Value:=.slice v.sa v.sn v.sc
def FrV.free (v:FrV) (k j:Nat):Prop:=j≠k∧v.lv.ownBlock≠some j∧v.sv.ownBlock≠some j
structure BnAt (w:World) (B k:Nat) (c:BnC) (v:FrV) (b:Aai):Prop where
 blk:w.heap[k]?=some (O26 (some ⟨c.tg,0,none⟩) c.T.length c.tc c.ya c.yn c.yc v.la v.ln v.lc v.sa v.sn v.sc c.hi b.br)
 lo:TysAt w B v.lv b.lo
 st:TysAt w B v.sv b.st
 nk:v.lv.ownBlock≠some k∧v.sv.ownBlock≠some k
 ns:∀ j,v.lv.ownBlock=some j→v.sv.ownBlock≠some j
 hB:B≤k
 tr:TreeIn w c.tg c.T
 tB:c.tg<B
 tl:c.T.length≤1000
 ll:b.lo.length≤1000
 sl:b.st.length≤5000
structure Bn (k:Nat) (w:World) (v:FrV) (w':World) (v':FrV):Prop where
 bel:Below 0 w w'
 blk:∀ j,j<w.heap.size→v.free k j→w'.heap[j]?=w.heap[j]?∧v'.free k j
theorem Bn.refl (k:Nat) (w:World) (v:FrV):Bn k w v w v:=⟨Below.refl _ _,fun _ _ h=>⟨rfl,h⟩⟩
theorem Bn.trans {k:Nat}{a b c:World}{u v x:FrV} (h:Bn k a u b v) (h':Bn k b v c x):Bn k a u c x :=
 ⟨h.bel.trans h'.bel,fun j hj hf=>by
  obtain⟨e,f⟩:=h.blk j hj hf;obtain⟨e',f'⟩:=h'.blk j (Nat.lt_of_lt_of_le hj h.bel.size) f;exact⟨e'.trans e,f'⟩⟩
theorem Bn.of_below {k:Nat}{a b:World} (v:FrV) (h:Below a.heap.size a b):Bn k a v b v:=⟨⟨h.os,h.tape,h.output,h.size,fun _ hj=>absurd hj (Nat.not_lt_zero _)⟩,fun j hj hf=>⟨h.block j hj,hf⟩⟩
theorem Bn.stay {k j:Nat}{w w':World}{v v':FrV}{o:Obj} (h:Bn k w v w' v') (hf:v.free k j) (hb:w.heap[j]?=some o):w'.heap[j]?=some o:=(h.blk j (lt_of_block hb) hf).1.trans hb
theorem Bn.free {k j:Nat}{w w':World}{v v':FrV} (h:Bn k w v w' v') (hf:v.free k j) (hj:j<w.heap.size):v'.free k j:=(h.blk j hj hf).2
theorem Ca {b size n:Nat}{t:TypeId}{v:Value}{xs:List Value}{w w':World} (h:w.ownsRow b t size v n xs) (hk:∀ j,v.ownBlock=some j→w'.heap[j]?=w.heap[j]?):w'.ownsRow b t size v n xs:=by
 obtain⟨e1,e2|⟨g,cap,cur,a,c,d,r⟩⟩:=h
 ·exact⟨e1,.inl e2⟩
 ·exact⟨e1,.inr ⟨g,cap,cur,a,c,by rw[hk g (by rw[a];rfl)];exact d,r⟩⟩
theorem BnAt.k_lt {w:World}{B k:Nat}{c:BnC}{v:FrV}{b:Aai} (h:BnAt w B k c v b):k<w.heap.size:=lt_of_block h.blk
theorem BnAt.low {w:World}{B k j:Nat}{c:BnC}{v:FrV}{b:Aai} (h:BnAt w B k c v b) (hj:j<B):v.free k j :=
 ⟨by have:=h.hB;omega,fun e=>by have:=(h.lo.lt j e).1;omega,fun e=>by have:=(h.st.lt j e).1;omega⟩
theorem BnAt.new {w:World}{B k j:Nat}{c:BnC}{v:FrV}{b:Aai} (h:BnAt w B k c v b) (hj:w.heap.size≤j):v.free k j :=
 ⟨by have:=h.k_lt;omega,fun e=>by have:=(h.lo.lt j e).2;omega,fun e=>by have:=(h.st.lt j e).2;omega⟩
theorem BnAt.B_le {w:World}{B k:Nat}{c:BnC}{v:FrV}{b:Aai} (h:BnAt w B k c v b):B≤w.heap.size:=Nat.le_of_lt (Nat.lt_of_le_of_lt h.hB h.k_lt)
theorem Bn.low {w w':World}{B k:Nat}{c:BnC}{v v':FrV}{b:Aai} (h:Bn k w v w' v') (hb:BnAt w B k c v b):Below B w w' :=
 ⟨h.bel.os,h.bel.tape,h.bel.output,h.bel.size,fun j hj=>(h.blk j (Nat.lt_of_lt_of_le hj hb.B_le) (hb.low hj)).1⟩
theorem BnAt.below {w w':World}{B k:Nat}{c:BnC}{v:FrV}{b:Aai} (h:BnAt w B k c v b) (hb:Below w.heap.size w w'):BnAt w' B k c v b :=
 ⟨stay hb h.blk,Ca h.lo (fun j hj=>hb.block j (h.lo.lt j hj).2),Ca h.st (fun j hj=>hb.block j (h.st.lt j hj).2),h.nk,h.ns,h.hB,h.tr.below hb,h.tB,h.tl,h.ll,h.sl⟩
theorem BnAt.alloc {w:World}{B k:Nat}{c:BnC}{v:FrV}{b:Aai} (h:BnAt w B k c v b) (o:Obj):BnAt (w.alloc o) B k c v b:=h.below (QN o)
theorem BnAt.drew {w:World}{B k:Nat}{c:BnC}{v:FrV}{b:Aai} (h:BnAt w B k c v b):BnAt w.drew B k c v b:=h.below (Below.refl _ _).drew
theorem Bn.alloc {k:Nat}{w w':World}{v v':FrV} (h:Bn k w v w' v') (o:Obj):Bn k w v (w'.alloc o) v':=h.trans (Bn.of_below v' (QN o))
theorem Bn.drew {k:Nat}{w w':World}{v v':FrV} (h:Bn k w v w' v'):Bn k w v w'.drew v':=h.trans (Bn.of_below v' (Below.refl _ _).drew)
theorem Do {w w':World}{g B:Nat}{l:List Int} (h:TreeIn w g l) (hg:g<B) (hb:Below B w w'):TreeIn w' g l :=
 ⟨Nat.lt_of_lt_of_le h.1 hb.size,fun i hi=>by rw[hb.cell (p:=⟨g,i,none⟩) hg];exact h.2 i hi⟩
theorem BnAt.setS {w:World}{B k:Nat}{c:BnC}{v:FrV}{b:Aai} (h:BnAt w B k c v b) {sa:Option Addr}{sn sc:Nat}{st:List (Int × Int)} (ht:TysAt w B (.slice sa sn sc) st) (hl:st.length≤5000)
  (hk:(Value.slice sa sn sc).ownBlock≠some k) (hs:∀ j,v.lv.ownBlock=some j→(Value.slice sa sn sc).ownBlock≠some j) :
  BnAt (w.setCell ⟨k,3,none⟩ (.slice sa sn sc)) B k c ⟨v.la,v.ln,v.lc,sa,sn,sc⟩ ⟨b.lo,st,b.br⟩ :=
 ⟨by rw[Ai h.blk];rfl,Ca h.lo (fun j hj=>As (fun e=>h.nk.1 (e ▸ hj))),Ca ht (fun j hj=>As (fun e=>hk (e ▸ hj))),⟨h.nk.1,hk⟩,hs,h.hB,
  Do h.tr h.tB ((Below.refl B w).setCell (by simpa using h.hB) _),h.tB,h.tl,h.ll,hl⟩
theorem BnAt.brk {w:World}{B k:Nat}{c:BnC}{v:FrV}{b:Aai} (h:BnAt w B k c v b):BnAt (w.setCell ⟨k,5,none⟩ (.bool true)) B k c v ⟨b.lo,b.st,true⟩ :=
 ⟨by rw[Ai h.blk];rfl,Ca h.lo (fun j hj=>As (fun e=>h.nk.1 (e ▸ hj))),Ca h.st (fun j hj=>As (fun e=>h.nk.2 (e ▸ hj))),h.nk,h.ns,h.hB,
  Do h.tr h.tB ((Below.refl B w).setCell (by simpa using h.hB) _),h.tB,h.tl,h.ll,h.sl⟩
theorem Bn.setK {k i:Nat}{w w':World}{v v' v2:FrV} (h:Bn k w v w' v') (u:Value) (hl:v2.lv.ownBlock=v'.lv.ownBlock) (hs:v2.sv.ownBlock=v'.sv.ownBlock):Bn k w v (w'.setCell ⟨k,i,none⟩ u) v2 :=
 h.trans ⟨(Below.refl 0 w').setCell (by simp) u,fun j _ hf=>⟨As hf.1,hf.1,by rw[hl];exact hf.2.1,by rw[hs];exact hf.2.2⟩⟩
theorem Bn.brk {k:Nat}{w w':World}{v v':FrV} (h:Bn k w v w' v'):Bn k w v (w'.setCell ⟨k,5,none⟩ (.bool true)) v':=h.setK _ rfl rfl
theorem V8 {w:World}{B n cp:Nat}{a:Option Addr}{l:List (Int × Int)} (h:TysAt w B (.slice a n cp) l) {m:Nat} (hm:m≤l.length):TysAt w B (.slice a m cp) (l.take m):=by
 have hlt:(l.take m).length=m:=by simp;omega
 obtain⟨hl,⟨hv,hn⟩|⟨g,cap,cur,hv,hb,hg,hlen,hmx,hsz,htk⟩⟩:=h
 ·simp only[Value.slice.injEq]at hv;obtain⟨rfl,rfl,rfl⟩:=hv;have:m=0:=by omega
  subst this;exact⟨by simp[Am],.inl ⟨rfl,by simp⟩⟩
 ·simp only[Value.slice.injEq]at hv;obtain⟨rfl,rfl,rfl⟩:=hv;refine⟨by rw[Fu],.inr ⟨g,cp,cur,by rw[hlt],hb,hg,by omega,hmx,hsz,?_⟩⟩;rw[Je,hlt,← htk,List.take_take]
  congr 1;omega
theorem BnAt.setF {w:World}{B k j i:Nat}{c:BnC}{v:FrV}{b:Aai} (h:BnAt w B k c v b) (hf:v.free k j) (hj:B≤j) (u:Value):BnAt (w.setCell ⟨j,i,none⟩ u) B k c v b :=
 ⟨(As (Ne.symm hf.1)).trans h.blk,Ca h.lo (fun x hx=>As (fun e=>hf.2.1 (e ▸ hx))),Ca h.st (fun x hx=>As (fun e=>hf.2.2 (e ▸ hx))),h.nk,h.ns,h.hB,
  Do h.tr h.tB ((Below.refl B w).setCell (by simpa using hj) _),h.tB,h.tl,h.ll,h.sl⟩
theorem Bn.setF {k j i:Nat}{w w':World}{v v':FrV} (h:Bn k w v w' v') (hj:w.heap.size≤j) (u:Value):Bn k w v (w'.setCell ⟨j,i,none⟩ u) v' :=
 ⟨h.bel.setCell (by simp) u,fun x hx hf=>by
  obtain⟨e,f⟩:=h.blk x hx hf;exact⟨(As (by omega)).trans e,f⟩⟩
theorem Dm {P:Program}{ops:Array Oper}{o:Oper}{a:Act}{w:World}{K:Act→World→Prop}{Q:Exit→Act→World→Prop}{E:Prop}
  (hg:o.guard=none) (s x:Operand) (t:TypeId) (hop:o.op=Op.call { callee:=Callee.builtin Builtin.append,args:=#[s,x],argTypes:=#[t,t] })
  (base:Nat) (e:TypeId) (i:TypeInfo) (z:Value) (size bytes:Nat) (h1:P.underlying t=some (.slice e)) (h2:P.info? e=some i) (h3:i.zero=some z) (h4:i.size=size) (h5:i.bytes=bytes) (h6:z.cells.size=size) (h7:0<size)
  (v:Value) (n:Nat) (xs:List Value) (hs:a.eval s=v) (hown:w.ownsRow base e size v n xs)
  (ad:Addr) (m c:Nat) (news:List Value) (hx:a.eval x=.slice (some ad) m c) (hn:news.length=m*size) (hc:∀ j u,news[j]?=some u→w.cell? (ad.add j)=some u) (h1c:∀ u∈news,u.oneCell'=true)
  (b1:n+m≤maxLen) (b2:(n+m)*bytes≤140737488355328) (b3:base≤w.heap.size)
  (hK:∀ v' w',w'.ownsRow base e size v' (n+m) (xs++news)→w.grownBy w' v.ownBlock→(v'.ownBlock=v.ownBlock∨v'.ownBlock=some w.heap.size)→K (a.put o.dst v') w') :
  if Region.wanted o (yielded ops a.tmps)=true then Oper.wp P o a w K Q else E:=by
 have hw:Region.wanted o (yielded ops a.tmps)=true:=by simp[Region.wanted,hg]
 rw[if_pos hw];obtain⟨v',w',hrun,r1,r2,_,r3⟩:=run_append_own_at (P:=P) w base t o.type e i z size bytes h1 h2 h3 h4 h5 h6 h7 v n xs hown ad m c news hn hc h1c b1 b2 b3;unfold Oper.wp;simp[execOp,hop,resolve,invoke,builtin,hs,hx,hrun,Result.andThen];exact hK v' w' r1 r2 r3
theorem BnAt.grown {w w':World}{B k:Nat}{c:BnC}{v:FrV}{b:Aai} (h:BnAt w B k c v b) {sa:Option Addr}{sn sc:Nat}{st:List (Int × Int)} (hg:w.grownBy w' v.sv.ownBlock) (ht:TysAt w' B (.slice sa sn sc) st) (hl:st.length≤5000)
  (hat:(Value.slice sa sn sc).ownBlock=v.sv.ownBlock∨(Value.slice sa sn sc).ownBlock=some w.heap.size) :
  BnAt (w'.setCell ⟨k,3,none⟩ (.slice sa sn sc)) B k c ⟨v.la,v.ln,v.lc,sa,sn,sc⟩ ⟨b.lo,st,b.br⟩∧Bn k w v (w'.setCell ⟨k,3,none⟩ (.slice sa sn sc)) ⟨v.la,v.ln,v.lc,sa,sn,sc⟩:=by
 have hblk:w'.heap[k]?=_:=(hg.block k h.k_lt (fun e=>h.nk.2 e.symm)).trans h.blk;have hlo:∀ j,v.lv.ownBlock=some j→w'.heap[j]?=w.heap[j]?:=fun j hj=>hg.block j (h.lo.lt j hj).2 (fun e=>h.ns j hj e.symm);have hk:(Value.slice sa sn sc).ownBlock≠some k:=by
  rcases hat with e | e
  ·rw[e];exact h.nk.2
  ·rw[e];intro g;have:=h.k_lt;simp at g;omega
 have hs:∀ j,v.lv.ownBlock=some j→(Value.slice sa sn sc).ownBlock≠some j:=by
  intro j hj;rcases hat with e | e
  ·rw[e];exact h.ns j hj
  ·rw[e];intro g;have:=(h.lo.lt j hj).2;simp at g;omega
 have hbel:Below B w w':=⟨hg.os,hg.tape,hg.output,hg.size,fun j hj=>hg.block j (Nat.lt_of_lt_of_le hj h.B_le) (fun e=>by have:=(h.st.lt j e.symm).1;omega)⟩;have hA:BnAt w' B k c v ⟨b.lo,b.st,b.br⟩→True:=fun _=>trivial;clear hA;refine⟨⟨by rw[Ai hblk];rfl,Ca (Ca h.lo hlo) (fun j hj=>As (fun e=>h.nk.1 (e ▸ hj))),Ca ht (fun j hj=>As (fun e=>hk (e ▸ hj))),⟨h.nk.1,hk⟩,hs,h.hB,
  Do (Do h.tr h.tB hbel) h.tB ((Below.refl B w').setCell (by simpa using h.hB) _),h.tB,h.tl,h.ll,hl⟩,?_⟩
 refine⟨(⟨hg.os,hg.tape,hg.output,hg.size,fun j hj=>absurd hj (Nat.not_lt_zero _)⟩:Below 0 w w').setCell (by simp) _,fun j hj hf=>⟨?_,hf.1,hf.2.1,?_⟩⟩
 ·rw[As hf.1];exact hg.block j hj (fun e=>hf.2.2 e.symm)
 ·rcases hat with e | e
  ·exact fun g=>hf.2.2 (e.symm.trans g)
  ·intro g;rw[e]at g;simp at g;omega
theorem Hn (w:World):Calls Tryz.prog 124 #[] w fun e w'=>e=.returned (.agg #[.int .i64 0,.int .i64 0])∧Below w.heap.size w w':=by
 go_enter Tryz.func124,Tryz.ntmps124;go_wp2;refine bodyPost_ret (v:=.agg #[.int .i64 0,.int .i64 0]) (by simp[results,Tryz.results124,go_sem]) rfl ?_;exact⟨rfl,by repeat (first | refine Below.setCell ?_ (by simp) _ | refine Below.alloc ?_ (by simp) _ | exact Below.refl _ _)⟩
theorem Db (w:World) (B k:Nat) (c:BnC) (v:FrV) (b:Aai) (h:BnAt w B k c v b) :
  Calls Tryz.prog 200 #[.pointer (some ⟨k,0,none⟩)] w fun e w'=>e=.returned (.agg #[.int .i64 (Zu b).1.1,.int .i64 (Zu b).1.2])∧∃ v',BnAt w' B k c v' (Zu b).2∧Bn k w v w' v':=by
 have hA:=h.alloc (O7 0 0);have GA:=(Bn.refl k w v).alloc (O7 0 0);have hkl:=h.k_lt;have hBl:=h.B_le;have hnew:=h.new (Nat.le_refl _);have RA:=Ad w (O7 0 0);obtain⟨la,ln,lc,sa,sn,sc⟩:=v;obtain⟨lo,st,br⟩:=b;obtain⟨xa,xc,hsh⟩:=Af h.st;simp only[Value.slice.injEq]at hsh;obtain⟨rfl,hn1,rfl⟩:=hsh;subst hn1;have hb:=h.blk;have c3:=Ab hb 3;have c5:=Ab hb 5;have f5:=Ae hb 5;have f3:=Ae hb 3;simp at c3 c5;have hst:=h.st;have hsl:=h.sl;simp only at hst hsl;by_cases hz:st.length=0
 ·have e:Zu ⟨lo,st,br⟩=((0,0),⟨lo,st,true⟩):=by unfold Zu;rw[if_pos hz]
  rw[e];have hz':(st.length:Int)=0:=by omega
  have hA2:=(h.brk).alloc (O7 0 0);have GA2:=((Bn.refl k w ⟨la,ln,lc,sa,st.length,sc⟩).brk).alloc (O7 0 0);have RA2:=Ad (w.setCell ⟨k,5,none⟩ (.bool true)) (O7 0 0);have hsz:(w.setCell ⟨k,5,none⟩ (.bool true)).heap.size=w.heap.size:=by simp[World.setCell]
  rw[hsz]at RA2;clear e hst hb hsz;go_enter Tryz.func200,Tryz.ntmps200;go_wp2_with fail
  refine(Hn _).mono ?_;rintro e w1 ⟨rfl,hb1⟩;have hA3:=hA2.below hb1;have GA3:=GA2.trans (Bn.of_below _ hb1);have R3:=stay hb1 RA2;obtain⟨r0,r1⟩:=cl2 R3;obtain⟨q0,q1⟩:=fr2 R3;have lr:=lt_of_block R3;have hfr:=GA3.bel.size;simp at r0 r1;clear hb1 hA hA2 GA GA2 RA RA2;have hfree:FrV.free ⟨la,ln,lc,sa,st.length,sc⟩ k w.heap.size:=hnew;go_wp2;refine bodyPost_ret (v:=.agg #[.int .i64 0,.int .i64 0]) (by simp[results,Tryz.results200,go_sem,r0,r1]) rfl ?_;exact⟨rfl,_,(hA3.setF hfree hBl _).setF hfree hBl _,(GA3.setF (Nat.le_refl _) _).setF (Nat.le_refl _) _⟩
 ·obtain⟨m,hm⟩:∃ m,st.length=m+1:=⟨st.length-1,by omega⟩;have e:Zu ⟨lo,st,br⟩=(st.getD m (0,0),⟨lo,st.take m,br⟩):=by unfold Zu;rw[if_neg hz];simp only[hm,Nat.add_sub_cancel]
  rw[e];obtain⟨g,hg,hglt,_,hcell⟩:=Ao hst (by omega);obtain⟨t1,t2,t3⟩:=Az st m (by omega);have y0:=(hcell (m*2) (by omega)).trans t1;have y1:=(hcell (m*2+1) (by omega)).trans t2;have e2:st.getD m (0,0)=st[m]:=by simp[List.getD_eq_getElem?_getD,hm]
  rw[e2];generalize st[m]=t at *;obtain⟨t1',t2'⟩:=t;simp only at y0 y1 ⊢;subst hg;have hnk:=h.nk.2;have hns:=h.ns;simp only[hm]at hnk hns;have hS:=h.setS (sa:=some ⟨g,0,none⟩) (sn:=m) (sc:=sc) (V8 hst (by omega)) (by simp;omega) hnk hns;have GS:=(Bn.refl k w ⟨la,ln,lc,some ⟨g,0,none⟩,st.length,sc⟩).setK (i:=3) (v2:=⟨la,ln,lc,some ⟨g,0,none⟩,m,sc⟩) (.slice (some ⟨g,0,none⟩) m sc) rfl rfl;obtain⟨-,hc1,hc2⟩:=(TyR.of_tys hst).cap;simp only at hc1 hc2;have kb:(m:Int)<(st.length:Int):=by omega
  have kw:IntKind.i64.wrap ((st.length:Int)-1)=(m:Int):=by rw[Bd _ (by omega) (by unfold maxLen at *;omega)];omega
  have kc:(m:Int)≤(sc:Int):=by omega
  have km:m≤sc:=by omega
  clear e e2 hA GA RA hcell t1 t2 t3 hnk hns hm;go_enter Tryz.func200,Tryz.ntmps200;go_wp2;refine bodyPost_ret (v:=.agg #[.int .i64 t1',.int .i64 t2']) (by simp[results,Tryz.results200,go_sem]) rfl ?_;exact⟨rfl,⟨la,ln,lc,some ⟨g,0,none⟩,m,sc⟩,(hS.alloc _).alloc _,(GS.alloc _).alloc _⟩
theorem Dn (w:World) (B k:Nat) (c:BnC) (v:FrV) (b:Aai) (t1 t2:Int) (h:BnAt w B k c v b) (hsl:b.st.length<5000) :
  Calls Tryz.prog 201 #[.pointer (some ⟨k,0,none⟩),.agg #[.int .i64 t1,.int .i64 t2]] w fun e w'=>e=.returned (.tuple #[])∧∃ v',BnAt w' B k c v' (Aar c.hi (t1,t2) b)∧Bn k w v w' v':=by
 have hA:=h.alloc (O7 t1 t2);have GA:=(Bn.refl k w v).alloc (O7 t1 t2);have hkl:=h.k_lt;have hBl:=h.B_le;obtain⟨la,ln,lc,sa,sn,sc⟩:=v;obtain⟨lo,st,br⟩:=b;obtain⟨xa,xc,hsh⟩:=Af h.st;simp only[Value.slice.injEq]at hsh;obtain⟨rfl,hn1,rfl⟩:=hsh;subst hn1;have c3:=Ab hA.blk 3;have c4:=Ab hA.blk 4;have c5:=Ab hA.blk 5;have f5:=Ae hA.blk 5;have f3:=Ae hA.blk 3;have PA:=Ad w (O7 t1 t2);obtain⟨p0,p1⟩:=cl2 PA;simp at c3 c4 c5 p0 p1;obtain⟨i0,hi,hz0,hz1,hz2⟩:=info_parts Tryz.infoType;simp only at hsl;have hst2:(w.alloc (O7 t1 t2)).ownsRow B 39 2 (.slice sa st.length sc) st.length (Am st):=hA.st;have hnk2:=h.nk.2;unfold Aar;by_cases hz:c.hi≤(st.length:Int)
 ·rw[if_pos hz];go_enter Tryz.func201,Tryz.ntmps201;go_wp2
  go_region_held3 (fun w'=>w'.cell? ⟨k,3,none⟩=some (.slice sa st.length sc)∧w'.cell? ⟨k,4,none⟩=some (.int .i64 c.hi)) (exact⟨c3,c4⟩) (fail)
  go_wp2;refine bodyPost_ret (v:=.tuple #[]) (by simp[results,Tryz.results201,go_sem]) rfl ?_;exact⟨rfl,_,(h.brk.alloc _).drew,(((Bn.refl k w ⟨la,ln,lc,sa,st.length,sc⟩).brk).alloc _).drew⟩
 ·rw[if_neg hz];have hZc:∀ j u,[Value.int .i64 t1,.int .i64 t2][j]?=some u→((w.alloc (O7 t1 t2)).alloc (O7 t1 t2)).drew.drew.cell? ((⟨w.heap.size+1,0,none⟩:Addr).add j)=some u:=by
   intro j u hu;exact Au (w.alloc (O7 t1 t2)) [.int .i64 t1,.int .i64 t2] 39 (w.heap.size+1) (by simp) j u hu
  have hfin:∀ va' vc' w2,w2.ownsRow B 39 2 (.slice va' (st.length+1) vc') (st.length+1) (Am st++[.int .i64 t1,.int .i64 t2])→World.grownBy ((w.alloc (O7 t1 t2)).alloc (O7 t1 t2)).drew.drew w2 (Value.slice sa st.length sc).ownBlock →
    ((Value.slice va' (st.length+1) vc').ownBlock=(Value.slice sa st.length sc).ownBlock∨(Value.slice va' (st.length+1) vc').ownBlock=some ((w.alloc (O7 t1 t2)).alloc (O7 t1 t2)).drew.drew.heap.size)→∃ v',BnAt (w2.setCell ⟨k,3,none⟩ (.slice va' (st.length+1) vc')) B k c v' ⟨lo,st++[(t1,t2)],br⟩∧Bn k w ⟨la,ln,lc,sa,st.length,sc⟩ (w2.setCell ⟨k,3,none⟩ (.slice va' (st.length+1) vc')) v':=by
   intro va' vc' w2 hown2 hgrow hat;have hG:=((hA.alloc (O7 t1 t2)).drew.drew).grown (st:=st++[(t1,t2)]) hgrow (by unfold TysAt;rw[Bs,List.length_append];exact hown2) (by simp;omega) hat;exact⟨_,hG.1,(((GA.alloc (O7 t1 t2)).drew.drew).trans hG.2)⟩
  go_enter Tryz.func201,Tryz.ntmps201;go_wp2
  go_region_held3 (fun w'=>w'.cell? ⟨k,3,none⟩=some (.slice sa st.length sc)∧w'.cell? ⟨k,4,none⟩=some (.int .i64 c.hi)) (exact⟨c3,c4⟩) (fail)
  go_wp2
  -- MOVES
  refine wp_region_held_drew (S:=fun _=>True) (by kernel_rfl) trivial (fun hHeld=>?_);refine wpAnyH_take (i:=0) (oi:=⟨_,_,_,_,_,_⟩) (v:=.pointer (some ⟨k,0,none⟩)) rfl (by kernel_rfl) (by kernel_rfl) (by kernel_rfl) (fun _ _ _ h=>h) (Or.inl ⟨by rfl,?_⟩) hHeld ?_
  ·intro w' hSw
   go_simp
  try simp only[QX]
  refine wpAnyH_take (i:=1) (oi:=⟨_,_,_,_,_,_⟩) (v:=.pointer (some ⟨k,0,none⟩)) rfl (by kernel_rfl) (by kernel_rfl) (by kernel_rfl) (fun _ _ _ h=>h) (Or.inl ⟨by rfl,?_⟩) hHeld ?_
  ·intro w' hSw
   go_simp
  try simp only[QX]
  refine wpAnyH_take (i:=2) (oi:=⟨_,_,_,_,_,_⟩) (v:=.pointer (some ⟨k,0,none⟩)) rfl (by kernel_rfl) (by kernel_rfl) (by kernel_rfl) (fun _ _ _ h=>h) (Or.inl ⟨by rfl,?_⟩) hHeld ?_
  ·intro w' hSw
   go_simp
  try simp only[QX]
  refine wpAnyH_take (i:=3) (oi:=⟨_,_,_,_,_,_⟩) (v:=.pointer (some ⟨k,3,none⟩)) rfl (by kernel_rfl) (by kernel_rfl) (by kernel_rfl) (fun _ _ _ h=>h) (Or.inl ⟨by rfl,?_⟩) hHeld ?_
  ·intro w' hSw
   go_simp
  try simp only[QX]
  refine wpAnyH_ready (rs:=[4,5]) (by kernel_rfl) (by simp) ?_;refine AllReadyH.cons (o:=⟨_,_,_,_,_,_⟩) rfl (fun K hK=>?_) (AllReadyH.cons (o:=⟨_,_,_,_,_,_⟩) rfl (fun K hK=>?_) AllReadyH.nil)
  ·go_simp
   refine hK.out _ _ trivial (fun hHeld=>?_);clear hK K
   try simp only[QX]
   refine wpAnyH_ready (rs:=[5]) (by kernel_rfl) (by simp) ?_;refine AllReadyH.cons (o:=⟨_,_,_,_,_,_⟩) rfl (fun K hK=>?_) AllReadyH.nil
   go_simp
   refine hK.out _ _ trivial (fun hHeld=>?_);clear hK K
   try simp only[QX]
   refine wpAnyH_ready (rs:=[6]) (by kernel_rfl) (by simp) ?_;refine AllReadyH.cons (o:=⟨_,_,_,_,_,_⟩) rfl (fun K hK=>?_) AllReadyH.nil
   go_simp
   refine hK.out _ _ trivial (fun hHeld=>?_);clear hK K
   try simp only[QX]
   refine wpAnyH_ready (rs:=[7]) (by kernel_rfl) (by simp) ?_;refine AllReadyH.cons (o:=⟨_,_,_,_,_,_⟩) rfl (fun K hK=>?_) AllReadyH.nil;refine Dm (by rfl) _ _ _ (by rfl) B 39 i0 _ 2 16 Tryz.underlying48 hi hz0 hz1 hz2 rfl (by omega) _ _ _ (by rfl) ((hst2.alloc (O7 t1 t2)).drew.drew) ⟨w.heap.size+1,0,none⟩ 1 1 [.int .i64 t1,.int .i64 t2] (by rfl) (by rfl) hZc (by simp[Value.oneCell']) (by unfold maxLen;omega) (by omega) (by simp;omega) ?_;intro v' w2 hown2 hgrow hat;obtain⟨va',vc',rfl⟩:=Af hown2;have hb2:=(hgrow.block k (by simp;omega) (fun e=>hnk2 e.symm)).trans (Aj hA.blk (O7 t1 t2));have c2:=Ab hb2 3;have f2:=Ae hb2 3;have l2:=lt_of_block hb2;simp at c2;refine hK.out _ _ trivial (fun hHeld=>?_);clear hK K
   try simp only[QX]
   refine wpAnyH_take (i:=8) (oi:=⟨_,_,_,_,_,_⟩) (v:=.pointer (some ⟨k,0,none⟩)) rfl (by kernel_rfl) (by kernel_rfl) (by kernel_rfl) (fun _ _ _ h=>h) (Or.inl ⟨by rfl,?_⟩) hHeld ?_
   ·intro w' hSw
    go_simp
   try simp only[QX]
   refine wpAnyH_take (i:=9) (oi:=⟨_,_,_,_,_,_⟩) (v:=.pointer (some ⟨k,3,none⟩)) rfl (by kernel_rfl) (by kernel_rfl) (by kernel_rfl) (fun _ _ _ h=>h) (Or.inl ⟨by rfl,?_⟩) hHeld ?_
   ·intro w' hSw
    go_simp
   try simp only[QX]
   refine wpAnyH_ready (rs:=[10]) (by kernel_rfl) (by simp) ?_;refine AllReadyH.cons (o:=⟨_,_,_,_,_,_⟩) rfl (fun K hK=>?_) AllReadyH.nil
   go_simp
   refine hK.out _ _ trivial (fun hHeld=>?_);clear hK K
   try simp only[QX]
   refine wpAnyH_done (by kernel_rfl) ?_ _;go_wp2
   go_end0
   exact⟨rfl,hfin _ _ _ hown2 hgrow hat⟩
  ·go_simp
   refine hK.out _ _ trivial (fun hHeld=>?_);clear hK K
   try simp only[QX]
   refine wpAnyH_ready (rs:=[4,6]) (by kernel_rfl) (by simp) ?_;refine AllReadyH.cons (o:=⟨_,_,_,_,_,_⟩) rfl (fun K hK=>?_) (AllReadyH.cons (o:=⟨_,_,_,_,_,_⟩) rfl (fun K hK=>?_) AllReadyH.nil)
   ·go_simp
    refine hK.out _ _ trivial (fun hHeld=>?_);clear hK K
    try simp only[QX]
    refine wpAnyH_ready (rs:=[6]) (by kernel_rfl) (by simp) ?_;refine AllReadyH.cons (o:=⟨_,_,_,_,_,_⟩) rfl (fun K hK=>?_) AllReadyH.nil
    go_simp
    refine hK.out _ _ trivial (fun hHeld=>?_);clear hK K
    try simp only[QX]
    refine wpAnyH_ready (rs:=[7]) (by kernel_rfl) (by simp) ?_;refine AllReadyH.cons (o:=⟨_,_,_,_,_,_⟩) rfl (fun K hK=>?_) AllReadyH.nil;refine Dm (by rfl) _ _ _ (by rfl) B 39 i0 _ 2 16 Tryz.underlying48 hi hz0 hz1 hz2 rfl (by omega) _ _ _ (by rfl) ((hst2.alloc (O7 t1 t2)).drew.drew) ⟨w.heap.size+1,0,none⟩ 1 1 [.int .i64 t1,.int .i64 t2] (by rfl) (by rfl) hZc (by simp[Value.oneCell']) (by unfold maxLen;omega) (by omega) (by simp;omega) ?_;intro v' w2 hown2 hgrow hat;obtain⟨va',vc',rfl⟩:=Af hown2;have hb2:=(hgrow.block k (by simp;omega) (fun e=>hnk2 e.symm)).trans (Aj hA.blk (O7 t1 t2));have c2:=Ab hb2 3;have f2:=Ae hb2 3;have l2:=lt_of_block hb2;simp at c2;refine hK.out _ _ trivial (fun hHeld=>?_);clear hK K
    try simp only[QX]
    refine wpAnyH_take (i:=8) (oi:=⟨_,_,_,_,_,_⟩) (v:=.pointer (some ⟨k,0,none⟩)) rfl (by kernel_rfl) (by kernel_rfl) (by kernel_rfl) (fun _ _ _ h=>h) (Or.inl ⟨by rfl,?_⟩) hHeld ?_
    ·intro w' hSw
     go_simp
    try simp only[QX]
    refine wpAnyH_take (i:=9) (oi:=⟨_,_,_,_,_,_⟩) (v:=.pointer (some ⟨k,3,none⟩)) rfl (by kernel_rfl) (by kernel_rfl) (by kernel_rfl) (fun _ _ _ h=>h) (Or.inl ⟨by rfl,?_⟩) hHeld ?_
    ·intro w' hSw
     go_simp
    try simp only[QX]
    refine wpAnyH_ready (rs:=[10]) (by kernel_rfl) (by simp) ?_;refine AllReadyH.cons (o:=⟨_,_,_,_,_,_⟩) rfl (fun K hK=>?_) AllReadyH.nil
    go_simp
    refine hK.out _ _ trivial (fun hHeld=>?_);clear hK K
    try simp only[QX]
    refine wpAnyH_done (by kernel_rfl) ?_ _;go_wp2
    go_end0
    exact⟨rfl,hfin _ _ _ hown2 hgrow hat⟩
   ·go_simp
    refine hK.out _ _ trivial (fun hHeld=>?_);clear hK K
    try simp only[QX]
    refine wpAnyH_ready (rs:=[4]) (by kernel_rfl) (by simp) ?_;refine AllReadyH.cons (o:=⟨_,_,_,_,_,_⟩) rfl (fun K hK=>?_) AllReadyH.nil
    go_simp
    refine hK.out _ _ trivial (fun hHeld=>?_);clear hK K
    try simp only[QX]
    refine wpAnyH_ready (rs:=[7]) (by kernel_rfl) (by simp) ?_;refine AllReadyH.cons (o:=⟨_,_,_,_,_,_⟩) rfl (fun K hK=>?_) AllReadyH.nil;refine Dm (by rfl) _ _ _ (by rfl) B 39 i0 _ 2 16 Tryz.underlying48 hi hz0 hz1 hz2 rfl (by omega) _ _ _ (by rfl) ((hst2.alloc (O7 t1 t2)).drew.drew) ⟨w.heap.size+1,0,none⟩ 1 1 [.int .i64 t1,.int .i64 t2] (by rfl) (by rfl) hZc (by simp[Value.oneCell']) (by unfold maxLen;omega) (by omega) (by simp;omega) ?_;intro v' w2 hown2 hgrow hat;obtain⟨va',vc',rfl⟩:=Af hown2;have hb2:=(hgrow.block k (by simp;omega) (fun e=>hnk2 e.symm)).trans (Aj hA.blk (O7 t1 t2));have c2:=Ab hb2 3;have f2:=Ae hb2 3;have l2:=lt_of_block hb2;simp at c2;refine hK.out _ _ trivial (fun hHeld=>?_);clear hK K
    try simp only[QX]
    refine wpAnyH_take (i:=8) (oi:=⟨_,_,_,_,_,_⟩) (v:=.pointer (some ⟨k,0,none⟩)) rfl (by kernel_rfl) (by kernel_rfl) (by kernel_rfl) (fun _ _ _ h=>h) (Or.inl ⟨by rfl,?_⟩) hHeld ?_
    ·intro w' hSw
     go_simp
    try simp only[QX]
    refine wpAnyH_take (i:=9) (oi:=⟨_,_,_,_,_,_⟩) (v:=.pointer (some ⟨k,3,none⟩)) rfl (by kernel_rfl) (by kernel_rfl) (by kernel_rfl) (fun _ _ _ h=>h) (Or.inl ⟨by rfl,?_⟩) hHeld ?_
    ·intro w' hSw
     go_simp
    try simp only[QX]
    refine wpAnyH_ready (rs:=[10]) (by kernel_rfl) (by simp) ?_;refine AllReadyH.cons (o:=⟨_,_,_,_,_,_⟩) rfl (fun K hK=>?_) AllReadyH.nil
    go_simp
    refine hK.out _ _ trivial (fun hHeld=>?_);clear hK K
    try simp only[QX]
    refine wpAnyH_done (by kernel_rfl) ?_ _;go_wp2
    go_end0
    exact⟨rfl,hfin _ _ _ hown2 hgrow hat⟩
  -- END
def TyF (w:World) (k:Nat) (v:FrV) (a:Option Addr) (n cp:Nat) (l:List (Int × Int)):Prop:=TyR w (.slice a n cp) l∧∀ g o,a=some ⟨g,o,none⟩→v.free k g
theorem TyF.bn {w w':World}{k n cp:Nat}{v v':FrV}{a:Option Addr}{l:List (Int × Int)} (h:TyF w k v a n cp l) (hb:Bn k w v w' v'):TyF w' k v' a n cp l:=by
 obtain⟨h1|⟨g,o,c,cur,hv,hg,h1,h2,h3⟩,hf⟩:=h
 ·refine⟨.inl h1,fun g o e=>?_⟩;have:=h1.1;simp only[Value.slice.injEq]at this;rw[this.1]at e;cases e
 ·simp only[Value.slice.injEq]at hv;obtain⟨rfl,rfl,rfl⟩:=hv;have hfr:=hf g o rfl;obtain⟨e1,e2⟩:=hb.blk g (lt_of_block hg) hfr;refine⟨.inr ⟨g,o,cp,cur,rfl,e1.trans hg,h1,h2,fun j x hx=>?_⟩,fun g' o' e=>?_⟩
  ·rw[World.cell?_of_block (a:=⟨g,o+j,none⟩) e1];exact h3 j x hx
  ·simp only[Option.some.injEq,Addr.mk.injEq,and_true]at e;rw[← e.1];exact e2
theorem Ks (T:List Int) (l:List (Int × Int)):∀ (k:Nat) (b:Aai),(Aa9 T l k b).st.length≤b.st.length
 | 0,b=>Nat.le_refl _
 | k+1,b=>by
  unfold Aa9;refine Nat.le_trans (Ks T l k _) ?_;rw[(Nr _ _ _ _).2.1];unfold Zu
  split<;>simp
theorem Ez (w:World) (B k:Nat) (c:BnC) (v:FrV) (b:Aai) (a:Option Addr) (n cp:Nat) (l:List (Int × Int)) (h:BnAt w B k c v b) (hl:TyF w k v a n cp l) (hl5:l.length≤20000) :
  Calls Tryz.prog 206 #[.pointer (some ⟨k,0,none⟩),.slice a n cp] w fun e w'=>e=.returned (.tuple #[])∧∃ v',BnAt w' B k c v' (Abb c.T l b)∧Bn k w v w' v':=by
 unfold Abb;generalize hR:Aa9 c.T l l.length b=R;have HR:=Ac hR;clear hR;obtain⟨hn,-,-⟩:=hl.1.cap;subst hn;go_enter Tryz.func206,Tryz.ntmps206;go_wp2
 go_loopw [4] (fun s wr=>∃ (m:Nat) (v':FrV) (b':Aai),m≤l.length∧s=.int .i64 ((m:Int)-1)∧Hid (Aa9 c.T l m b'=R)∧BnAt wr B k c v' b'∧Bn k w v wr v')
  (fun s _=>(intOf s+1).toNat)
 case atStart=>exact⟨l.length,v,b,Nat.le_refl _,by go_num,HR,h,Bn.refl _ _ _⟩
 case round =>
  clear HR h;obtain⟨m,v1,b1,hm,rfl,HR,h,hG⟩:=hrel;cases m with
  | zero =>
   have HE:Hid (b1=R):=Aa HR;clear HR;go_wp2
   go_end0
   obtain rfl:=Aa HE;exact⟨rfl,v1,h,hG⟩
  | succ m =>
   have hr:=Aa HR;rw[Aa9]at hr;have hta:=Db wr B k c v1 b1 h;have hlF:=hl.bn hG;have hkl:=h.k_lt;have hsl:=h.sl;have hge:(0:Int)≤((m+1:Nat):Int)-1:=by omega
   have hmm:((m+1:Nat):Int)-1=(m:Int):=by omega
   rw[hmm];generalize hta1:(Zu b1).1=t at *;obtain⟨t1,t2⟩:=t;generalize hta2:(Zu b1).2=b2 at *;have HTA:=Ac hta;have HRR:=Ac hr;clear hta hr HR hta1 hta2 hge hmm;go_wp2_with fail
   refine(Aa HTA).mono ?_;rintro e w1 ⟨rfl,v2,h2,hG2⟩;have hlF2:=(hlF.bn hG2);obtain⟨g,o,rfl,hglt,hat⟩:=hlF2.1.at (by omega);obtain⟨y0,y1⟩:=hat m (by omega);have hx:l.getD m (0,0)=l[m]:=by simp[List.getD_eq_getElem?_getD,show m<l.length by omega]
   have hr:=Aa HRR;rw[hx]at hr;generalize l[m]=x at *;obtain⟨x1,x2⟩:=x;simp only at y0 y1;have h3:=h2.alloc (O7 t1 t2);have hG3:=(hG.trans hG2).alloc (O7 t1 t2);have TA:=Ad w1 (O7 t1 t2);have p0:(w1.alloc (O7 t1 t2)).cell? ⟨w1.heap.size,0,none⟩=some (.int .i64 t1):=(Ab TA 0).trans rfl;have p1:(w1.alloc (O7 t1 t2)).cell? ⟨w1.heap.size,1,none⟩=some (.int .i64 t2):=(Ab TA 1).trans rfl;have k0:=Ab h3.blk 0;have k1:=Ab h3.blk 1;have lT:=lt_of_block TA;have lK:=h3.k_lt;simp at k0 k1;have z0:=(World.cell?_alloc_lt w1 (O7 t1 t2) ⟨g,o+m*2,none⟩ hglt).trans y0;have z1:=(World.cell?_alloc_lt w1 (O7 t1 t2) ⟨g,o+m*2+1,none⟩ hglt).trans y1;have lg:g<(w1.alloc (O7 t1 t2)).heap.size:=by simp;omega
   have hfi:=Bz (ya:=c.ya) (yn:=c.yn) (yc:=c.yc) c.T c.tg c.tc t1 t2 x1 x2 (w1.alloc (O7 t1 t2)).drew h3.tl h3.drew.tr;have hfe:Aeh c.T (t1,t2) (x1,x2) b2=if Tr.fitsB c.T t1 t2 x1 x2=true then b2 else ⟨b2.lo,b2.st,true⟩:=rfl
   rw[hfe]at hr;generalize Tr.fitsB c.T t1 t2 x1 x2=A at *;have HFI:=Ac hfi;have kb:(m:Int)<(l.length:Int):=by omega
   have hm0:(0:Int)≤(m:Int):=by omega
   clear hat hx hlF HRR hfi hfe y0 y1 hlF2 hG2 h2;go_wp2
   go_region_held3 (fun w'=>w'.cell? ⟨k,0,none⟩=some (.slice (some ⟨c.tg,0,none⟩) c.T.length c.tc)∧w'.cell? ⟨k,1,none⟩=some (.slice c.ya c.yn c.yc)∧w'.cell? ⟨w1.heap.size,0,none⟩=some (.int .i64 t1)∧w'.cell? ⟨w1.heap.size,1,none⟩=some (.int .i64 t2)∧w'.cell? ⟨g,o+m*2,none⟩=some (.int .i64 x1)∧w'.cell? ⟨g,o+m*2+1,none⟩=some (.int .i64 x2))
    (first | exact⟨k0,k1,p0,p1,z0,z1⟩ | exact⟨QC hb7 lK k0,QC hb7 lK k1,QC hb7 lT p0,QC hb7 lT p1,QC hb7 lg z0,QC hb7 lg z1⟩)
    (first | (go_at_call 87;refine(Aa HFI).mono ?_;rintro e w7 ⟨rfl,hb7⟩))
   have h7:=h3.drew.below hb7;have hG7:=hG3.drew.trans (Bn.of_below _ hb7);have c5:=Ab h7.blk 5;have f5:=Ae h7.blk 5;have lk7:=h7.k_lt;simp at c5;clear hb7 k0 k1 p0 p1 z0 z1 lK lT lg TA h3 hG3 HFI;cases A with
   | true =>
    have HG2:Hid (Aa9 c.T l m b2=R):=by unfold Hid;rw[← hr];rfl
    clear hr;go_wp2
    go_roundw
    case rel=>exact⟨m,v2,b2,by omega,by go_num,HG2,h7,hG7⟩
    case measure=>simp[intOf]
   | false =>
    have HG2:Hid (Aa9 c.T l m ⟨b2.lo,b2.st,true⟩=R):=by unfold Hid;rw[← hr];rfl
    clear hr;have h8:=h7.brk;have hG8:=hG7.brk;go_wp2
    go_roundw
    case rel=>exact⟨m,v2,_,by omega,by go_num,HG2,h8,hG8⟩
    case measure=>simp[intOf]
theorem On (w:World) (B k:Nat) (c:BnC) (v:FrV) (b:Aai) (a:Option Addr) (n cp:Nat) (l:List (Int × Int)) (h:BnAt w B k c v b) (hl:TyF w k v a n cp l) (hl5:b.st.length+l.length≤4000) :
  Calls Tryz.prog 208 #[.pointer (some ⟨k,0,none⟩),.slice a n cp] w fun e w'=>e=.returned (.tuple #[])∧∃ v',BnAt w' B k c v' (Abd c.hi l b)∧Bn k w v w' v':=by
 generalize hR:Abd c.hi l b=R;have HR:Hid (Abd c.hi (l.drop 0) b=R):=hR;clear hR;obtain⟨hn,-,-⟩:=hl.1.cap;subst hn;go_enter Tryz.func208,Tryz.ntmps208;go_wp2
 go_loopw [8] (fun s wr=>∃ (m:Nat) (v':FrV) (b':Aai),m≤l.length∧s=.int .i64 (m:Int)∧b'.st.length≤b.st.length+m∧Hid (Abd c.hi (l.drop m) b'=R)∧BnAt wr B k c v' b'∧Bn k w v wr v')
  (fun s _=>l.length-(intOf s).toNat)
 case atStart=>exact⟨0,v,b,by omega,rfl,by omega,HR,h,Bn.refl _ _ _⟩
 case round =>
  clear HR h;obtain⟨m,v1,b1,hm,rfl,hbl,HR,h,hG⟩:=hrel;by_cases hmn:m<l.length
  ·have hlF:=hl.bn hG;obtain⟨g,o,rfl,hglt,hat⟩:=hlF.1.at (by omega);obtain⟨y0,y1⟩:=hat m hmn;have hd:l.drop m=l[m]::l.drop (m+1):=List.drop_eq_getElem_cons hmn;have hr:=Aa HR;rw[hd,Abd]at hr;generalize l[m]=x at *;obtain⟨x1,x2⟩:=x;simp only at y0 y1;have h2:=h.alloc (O7 x1 x2);have hG2:=hG.alloc (O7 x1 x2);have hle:=Dn _ B k c v1 b1 x1 x2 h2 (by omega);have hll:(Aar c.hi (x1,x2) b1).st.length≤b.st.length+(m+1):=by unfold Aar;split<;>simp<;>omega
   generalize Aar c.hi (x1,x2) b1=b2 at *;have HLE:=Ac hle;have HG2:Hid (Abd c.hi (l.drop (m+1)) b2=R):=hr;have kb:(m:Int)<(l.length:Int):=by omega
   clear hle hr HR hd hat;go_wp2_with fail
   refine(Aa HLE).mono ?_;rintro e w1 ⟨rfl,v2,h3,hG3⟩;go_wp2
   go_roundw
   case rel=>exact⟨m+1,v2,b2,by omega,by go_num,by omega,HG2,h3,hG2.trans hG3⟩
   case measure=>simp[intOf];omega
  ·have HE:Hid (b1=R):=by unfold Hid;rw[← Aa HR,List.drop_eq_nil_of_le (by omega),Abd]
   have kb:¬ (m:Int)<(l.length:Int):=by omega
   clear HR;go_wp2
   go_end0
   obtain rfl:=Aa HE;exact⟨rfl,v1,h,hG⟩
theorem W0 (w:World) (B k:Nat) (c:BnC) (v:FrV) (b:Aai) (n:Nat) (h:BnAt w B k c v b) (hsl:b.st.length<5000) :
  Calls Tryz.prog 198 #[.pointer (some ⟨k,0,none⟩),.int .i64 (n:Int)] w fun e w'=>e=.returned (.tuple #[])∧∃ v',BnAt w' B k c v' (Ael c.hi (n:Int) b)∧Bn k w v w' v':=by
 have hle:=fun t1 t2=>Dn w B k c v b t1 t2 h hsl;have hb:=h.blk;have hkl:=h.k_lt;have hlo:=h.lo;obtain⟨la,ln,lc,sa,sn,sc⟩:=v;obtain⟨lo,st,br⟩:=b;obtain⟨xa,xc,hsh⟩:=Af h.lo;simp only[Value.slice.injEq]at hsh;obtain⟨rfl,hn1,rfl⟩:=hsh;subst hn1;have c2:=Ab hb 2;have c5:=Ab hb 5;have f5:=Ae hb 5;simp at c2 c5;unfold Ael;simp only;rw[if_neg (by omega),Int.toNat_natCast];have hn0:¬ (n:Int)<0:=by omega
 have hll:=h.ll;simp only at hll hlo;by_cases h1:(lo.length:Int)≤(n:Int)
 ·rw[if_pos h1];clear hle hb hlo;go_enter Tryz.func198,Tryz.ntmps198;go_wp2;refine bodyPost_ret (v:=.tuple #[]) (by simp[results,Tryz.results198,go_sem]) rfl ?_;exact⟨rfl,_,h.brk,(Bn.refl _ _ _).brk⟩
 ·rw[if_neg h1];have hq:n<lo.length:=by omega
  have hqi:(n:Int)<(lo.length:Int):=by omega
  obtain⟨g,hg,hglt,_,hcell⟩:=Ao hlo (by omega);obtain⟨e1,e2,e3⟩:=Az lo n hq;have y0:=(hcell (n*2) (by omega)).trans e1;have y1:=(hcell (n*2+1) (by omega)).trans e2;have hx:lo.getD n (0,0)=lo[n]:=by simp[List.getD_eq_getElem?_getD,hq]
  rw[hx];generalize lo[n]=x at *;obtain⟨x1,x2⟩:=x;simp only at y0 y1 ⊢;subst hg;by_cases h2:x1=0
  ·rw[if_pos h2];have h2':(x1==0)=true:=by simp[h2]
   clear h2 hle hb hcell e1 e2 e3 hx h1;go_enter Tryz.func198,Tryz.ntmps198;go_wp2;refine bodyPost_ret (v:=.tuple #[]) (by simp[results,Tryz.results198,go_sem]) rfl ?_;exact⟨rfl,_,h.brk,(Bn.refl _ _ _).brk⟩
  ·rw[if_neg h2];have h2':(x1==0)=false:=by simp[h2]
   have hle:=hle x1 x2;generalize Aar c.hi (x1,x2) ⟨lo,st,br⟩=b2 at *;have HLE:=Ac hle;clear h2 hle hb hcell e1 e2 e3 hx h1;go_enter Tryz.func198,Tryz.ntmps198;go_wp2_with fail
   refine(Aa HLE).mono ?_;rintro e w1 ⟨rfl,v2,h3,hG3⟩;go_wp2
   go_end0
   exact⟨rfl,v2,h3,hG3⟩
theorem BnAt.setLo {w:World}{B k:Nat}{c:BnC}{v:FrV}{b:Aai} (h:BnAt w B k c v b) {g ln lc q:Nat} (hg:v.lv=.slice (some ⟨g,0,none⟩) ln lc) (hq:q<b.lo.length) (t1 t2:Int) :
  BnAt ((w.setCell ⟨g,q*2,none⟩ (.int .i64 t1)).setCell ⟨g,q*2+1,none⟩ (.int .i64 t2)) B k c v ⟨b.lo.set q (t1,t2),b.st,b.br⟩∧Bn k w v ((w.setCell ⟨g,q*2,none⟩ (.int .i64 t1)).setCell ⟨g,q*2+1,none⟩ (.int .i64 t2)) v:=by
 have ho:v.lv.ownBlock=some g:=by rw[hg];rfl
 have hgk:k≠g:=fun e=>h.nk.1 (e ▸ ho);have hgs:v.sv.ownBlock≠some g:=h.ns g ho;have hgB:B≤g:=(h.lo.lt g ho).1;have hne:∀ j,j≠g→((w.setCell ⟨g,q*2,none⟩ (.int .i64 t1)).setCell ⟨g,q*2+1,none⟩ (.int .i64 t2)).heap[j]?=w.heap[j]?:=fun j hj=>(As hj).trans (As hj);have hlo:=h.lo;rw[hg]at hlo;obtain⟨g',eg,-,-,-,-,-,-,hts⟩:=Fy hlo hq t1 t2;simp only[Option.some.injEq,Addr.mk.injEq,and_true]at eg;subst eg;have hbel:Below B w ((w.setCell ⟨g,q*2,none⟩ (.int .i64 t1)).setCell ⟨g,q*2+1,none⟩ (.int .i64 t2)):=((Below.refl B w).setCell (by simpa using hgB) _).setCell (by simpa using hgB) _;refine⟨⟨(hne k hgk).trans h.blk,by rw[hg];exact hts,Ca h.st (fun j hj=>hne j (fun e=>hgs (e ▸ hj))),h.nk,h.ns,h.hB,Do h.tr h.tB hbel,h.tB,h.tl,by simpa using h.ll,h.sl⟩,?_⟩;exact⟨((Below.refl 0 w).setCell (by simp) _).setCell (by simp) _,fun j hj hf=>⟨hne j (fun e=>hf.2.1 (e ▸ ho)),hf⟩⟩
theorem BnAt.setSt {w:World}{B k:Nat}{c:BnC}{v:FrV}{b:Aai} (h:BnAt w B k c v b) {g sn sc q:Nat} (hg:v.sv=.slice (some ⟨g,0,none⟩) sn sc) (hq:q<b.st.length) (t1 t2:Int) :
  BnAt ((w.setCell ⟨g,q*2,none⟩ (.int .i64 t1)).setCell ⟨g,q*2+1,none⟩ (.int .i64 t2)) B k c v ⟨b.lo,b.st.set q (t1,t2),b.br⟩∧Bn k w v ((w.setCell ⟨g,q*2,none⟩ (.int .i64 t1)).setCell ⟨g,q*2+1,none⟩ (.int .i64 t2)) v:=by
 have ho:v.sv.ownBlock=some g:=by rw[hg];rfl
 have hgk:k≠g:=fun e=>h.nk.2 (e ▸ ho);have hgl:v.lv.ownBlock≠some g:=fun e=>h.ns g e ho;have hgB:B≤g:=(h.st.lt g ho).1;have hne:∀ j,j≠g→((w.setCell ⟨g,q*2,none⟩ (.int .i64 t1)).setCell ⟨g,q*2+1,none⟩ (.int .i64 t2)).heap[j]?=w.heap[j]?:=fun j hj=>(As hj).trans (As hj);have hst:=h.st;rw[hg]at hst;obtain⟨g',eg,-,-,-,-,-,-,hts⟩:=Fy hst hq t1 t2;simp only[Option.some.injEq,Addr.mk.injEq,and_true]at eg;subst eg;have hbel:Below B w ((w.setCell ⟨g,q*2,none⟩ (.int .i64 t1)).setCell ⟨g,q*2+1,none⟩ (.int .i64 t2)):=((Below.refl B w).setCell (by simpa using hgB) _).setCell (by simpa using hgB) _;refine⟨⟨(hne k hgk).trans h.blk,Ca h.lo (fun j hj=>hne j (fun e=>hgl (e ▸ hj))),by rw[hg];exact hts,h.nk,h.ns,h.hB,Do h.tr h.tB hbel,h.tB,h.tl,h.ll,by simpa using h.sl⟩,?_⟩;exact⟨((Below.refl 0 w).setCell (by simp) _).setCell (by simp) _,fun j hj hf=>⟨hne j (fun e=>hf.2.2 (e ▸ ho)),hf⟩⟩
theorem TysAt.alloc' {w:World}{b:Nat}{v:Value}{l:List (Int × Int)} (h:TysAt w b v l) (o:Obj):TysAt (w.alloc o) b v l:=Ca h (fun j hj=>Below.heap_alloc _ _ _ (h.lt j hj).2)
theorem Ty (w:World) (B k:Nat) (c:BnC) (v:FrV) (b:Aai) (n:Nat) (h:BnAt w B k c v b) (hn:n≤100000) :
  Calls Tryz.prog 199 #[.pointer (some ⟨k,0,none⟩),.int .i64 (n:Int)] w fun e w'=>e=.returned (.tuple #[])∧∃ v',BnAt w' B k c v' (Aee (n:Int) b)∧Bn k w v w' v':=by
 have hta:=Db w B k c v b h;have hlo2:=Qf b;unfold Aee;rw[if_neg (by omega),Int.toNat_natCast];rw[← hlo2];generalize Zu b=tb at *;obtain⟨⟨t1,t2⟩,b2⟩:=tb;simp only at hta ⊢;have HTA:=Ac hta;have hn0:¬ (n:Int)<0:=by omega
 clear hta hlo2 h;by_cases hlen:(b2.lo.length:Int)≤(n:Int)
 ·rw[if_pos hlen];go_enter Tryz.func199,Tryz.ntmps199;go_wp2_with fail
  refine(Aa HTA).mono ?_;rintro e w1 ⟨rfl,v1,h1,hG1⟩;obtain⟨la,ln,lc,sa,sn,sc⟩:=v1;obtain⟨xa,xc,hsh⟩:=Af h1.lo;simp only[Value.slice.injEq]at hsh;obtain⟨rfl,hn1,rfl⟩:=hsh;subst hn1;have h2:=h1.alloc (O7 t1 t2);have hG2:=hG1.alloc (O7 t1 t2);have c2:=Ab h1.blk 2;have c5:=Ab h1.blk 5;have f5:=Ae h1.blk 5;have lk:=h1.k_lt;have hll:=h1.ll;simp at c2 c5;go_wp2;refine bodyPost_ret (v:=.tuple #[]) (by simp[results,Tryz.results199,go_sem]) rfl ?_;exact⟨rfl,_,h1.brk.alloc _,hG1.brk.alloc _⟩
 ·rw[if_neg hlen];have hq:n<b2.lo.length:=by omega
  have hqi:(n:Int)<(b2.lo.length:Int):=by omega
  clear hlen;go_enter Tryz.func199,Tryz.ntmps199;go_wp2_with fail
  refine(Aa HTA).mono ?_;rintro e w1 ⟨rfl,v1,h1,hG1⟩;obtain⟨la,ln,lc,sa,sn,sc⟩:=v1;obtain⟨xa,xc,hsh⟩:=Af h1.lo;simp only[Value.slice.injEq]at hsh;obtain⟨rfl,hn1,rfl⟩:=hsh;subst hn1;have h2:=h1.alloc (O7 t1 t2);have hG2:=hG1.alloc (O7 t1 t2);have c2:=Ab h1.blk 2;have c5:=Ab h1.blk 5;have f5:=Ae h1.blk 5;have lk:=h1.k_lt;have hll:=h1.ll;simp at c2 c5;obtain⟨g,hg,hglt,_,y0,y1,z0,z1,-⟩:=Fy h1.lo hq t1 t2;subst hg;have hS:=h1.setLo (g:=g) (ln:=b2.lo.length) (lc:=lc) (q:=n) rfl hq t1 t2;have hSA:=hS.1.alloc (O7 t1 t2);have hsz:((w1.setCell ⟨g,n*2,none⟩ (.int .i64 t1)).setCell ⟨g,n*2+1,none⟩ (.int .i64 t2)).heap.size=w1.heap.size:=by simp[World.setCell]
  have TS:=Ad ((w1.setCell ⟨g,n*2,none⟩ (.int .i64 t1)).setCell ⟨g,n*2+1,none⟩ (.int .i64 t2)) (O7 t1 t2);rw[hsz]at TS;have s0:(((w1.setCell ⟨g,n*2,none⟩ (.int .i64 t1)).setCell ⟨g,n*2+1,none⟩ (.int .i64 t2)).alloc (O7 t1 t2)).cell? ⟨w1.heap.size,0,none⟩=some (.int .i64 t1):=(Ab TS 0).trans rfl;have s1:(((w1.setCell ⟨g,n*2,none⟩ (.int .i64 t1)).setCell ⟨g,n*2+1,none⟩ (.int .i64 t2)).alloc (O7 t1 t2)).cell? ⟨w1.heap.size,1,none⟩=some (.int .i64 t2):=(Ab TS 1).trans rfl;have s2:(((w1.setCell ⟨g,n*2,none⟩ (.int .i64 t1)).setCell ⟨g,n*2+1,none⟩ (.int .i64 t2)).alloc (O7 t1 t2)).cell? ⟨k,2,none⟩=some (.slice (some ⟨g,0,none⟩) b2.lo.length lc):=(Ab hSA.blk 2).trans rfl;clear hsz TS;have hgk:g≠k:=fun e=>h1.nk.1 (by rw[e];rfl);have hg1:g<w1.heap.size:=(h1.lo.lt g rfl).2;have TA:=Ad w1 (O7 t1 t2);have p0:(w1.alloc (O7 t1 t2)).cell? ⟨w1.heap.size,0,none⟩=some (.int .i64 t1):=(Ab TA 0).trans rfl;have p1:(w1.alloc (O7 t1 t2)).cell? ⟨w1.heap.size,1,none⟩=some (.int .i64 t2):=(Ab TA 1).trans rfl;have d2:(w1.alloc (O7 t1 t2)).cell? ⟨k,2,none⟩=some (.slice (some ⟨g,0,none⟩) b2.lo.length lc):=(Ab h2.blk 2).trans rfl;go_wp2
  go_region_held3 (fun w'=>w'.cell? ⟨k,2,none⟩=some (.slice (some ⟨g,0,none⟩) b2.lo.length lc)∧w'.cell? ⟨w1.heap.size,0,none⟩=some (.int .i64 t1)∧w'.cell? ⟨w1.heap.size,1,none⟩=some (.int .i64 t2))
   (first | exact⟨d2,p0,p1⟩ | exact⟨s2,s0,s1⟩)
   (fail)
  go_wp2
  go_end0
  exact⟨rfl,_,hSA.drew,(((hG1.trans hS.2).alloc _).drew)⟩
end Go.Proofs.YtcefiamkoincoaaGreat
