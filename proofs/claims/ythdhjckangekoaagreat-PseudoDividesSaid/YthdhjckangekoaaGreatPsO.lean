/-
  The law of pseudo and its reference: meters, counted; what a refusal leaves as it was.
-/
import Derived.Test.YthdhjckangekoaaGreatPsH
import Derived.RegionTactic
import Derived.ChangeAlike
set_option maxHeartbeats 40000000
set_option maxRecDepth 100000
namespace Go.Proofs.YthdhjckangekoaaGreat
open Go.RowKit
def Dj (a b:Option Nat):Prop:=∀x,a=some x->b≠some x
theorem dB.other [Ol] {w w':World} {mv:Value} {b0 b1:Option Nat} {o:Option MS} (h:dB w mv b0 o) (hG:w.grownBy w' b1) (hd:Dj b0 b1):dB w' mv b0 o:=h.keep fun b hb=>hG.block b (h.lt b hb) fun e=>hd b hb e.symm
theorem dO.other [Ol] {w w':World} {mv:Value} {b0 b1:Option Nat} {o:Option MS} (h:dO w mv b0 o) (hG:w.grownBy w' b1) (hd:Dj b0 b1):dO w' mv b0 o:=h.keep fun b hb=>hG.block b (h.lt b hb) fun e=>hd b hb e.symm
theorem Pc.none [Ol] {K:Nat} {w w':World} {ao:Option Addr} {n cap:Nat} (h:Pc K w ao n cap []):Pc K w' ao n cap []:=by
 have hn:n=0:=h.len.symm;obtain⟨X,h1,h2⟩:=h.ex;cases X with
 |nil=>exact⟨[],⟨h1.len,h1.le,h1.big,h1.each,h1.nil,h1.spot,(fun ad had h0=>by omega),(fun ad had t ht=>by omega),fun h0=>by omega⟩,trivial⟩
 |cons a r=>exact h2.elim
theorem Oi {o:Option MS} {q:List Term} (h:bO o q=0):bO o []=0:=by
 cases o with
 |none=>rfl
 |some s=>
  have h1:=uV h;simp only[bO,MS.je];rw[if_neg (by show¬s.li<((0:Nat):Int);omega),if_neg (by show¬s.te<((0:Nat):Int);omega)]
theorem Km {g f:List Term} {v:Int} {o:Option MS} {u u2:Out} (h:Ends g f v true o u) (he:u.e=0) (h2:Ends g f v false o u2):u2.e=0:=by
 obtain⟨n,h1,h3⟩:=h;have hg:∀j,j<n->Goes g f v false o j:=fun j hj=>⟨(h1 j hj).1,(h1 j hj).2.1,(h1 j hj).2.2.1,Oi (h1 j hj).2.2.2⟩
 rcases h3 with⟨a,rfl⟩|⟨_,⟨b,rfl⟩|⟨_,⟨c,rfl⟩|⟨_,d,rfl⟩⟩⟩
 ·rw[h2.unique ⟨n,hg,.inl ⟨a,rfl⟩⟩]
 ·exact absurd he b
 ·exact absurd he c
 ·exact absurd he d
theorem Nf {g f:List Term} {v:Int} {kq:Bool} {o:Option MS} {u:Out} (h:Ends g f v kq o u) (he:u.e≠0):u.q=[]/\ u.r=[]:=by
 obtain⟨n,h1,h3⟩:=h;rcases h3 with⟨a,rfl⟩|⟨_,⟨b,rfl⟩|⟨_,⟨c,rfl⟩|⟨_,d,rfl⟩⟩⟩
 ·exact absurd rfl he
 all_goals exact⟨rfl,rfl⟩
def oM (fu li te pi:Int) (nn:Bool):Option MS:=if nn=true∨DI fu li te pi=false then none else some (MS.new fu li te pi)
theorem dB.well [Ol] {w w':World} {mv:Value} {b0:Option Nat} {fu li te pi:Int} {nn:Bool} {g f:List Term} {v:Int} {kq:Bool} {u:Out} (h:dB w mv b0 (oM fu li te pi nn)) (h':dB w' mv b0 u.o) (hu:Ends g f v kq (oM fu li te pi nn) u) (he:u.e=0) (hG:w.grownBy w' b0):eZ w w' b0:=by
 refine⟨hG,fun b hb=>?_⟩;rcases h with⟨_,h,_⟩|⟨b',s,_,h,ho,hc,_,hl⟩
 ·rw[h]at hb;cases hb
 ·rw[h]at hb;cases hb;rcases h' with⟨_,h2,_⟩|⟨b2,s2,_,h2,ho2,hc2,_,_⟩
  ·rw[h]at h2;cases h2
  ·rw[h]at h2;cases h2;rw[h]at hG
   have hs:s.wh=0:=by
    unfold oM at ho;split at ho
    ·cases ho
    ·cases ho;rfl
   have hs2:s2.wh=0:=by
    unfold oM at hu;split at hu
    ·obtain⟨_,_,_,e⟩:=KH hu;rw[e]at ho2;cases ho2
    ·obtain⟨q,r,sn,e,o⟩:=u;obtain⟨t,ht,_,hc⟩:=KI hu;have he':e=0:=he;have ho3:o=Option.some s2:=ho2;rw[ht]at ho3;cases ho3;rcases hc with⟨_,hw,_⟩|⟨_,_,_,_,h|h|h⟩
     ·exact hw
     all_goals (rw[he']at h;exact absurd h.1 (by decide))
   exact GD hc hc2 (by rw[hs,hs2]) hG hl
theorem Pc.turn [Ol] {K:Nat} {w w':World} {mv:Value} {b0:Option Nat} {fu li te pi:Int} {nn:Bool} {g f:List Term} {v:Int} {kq:Bool} {u:Out} {ao:Option Addr} {n cap:Nat} {p:List Term} (hp:Pc K w ao n cap p) (hn:u.e≠0->p=[]) (h:dB w mv b0 (oM fu li te pi nn)) (h':dB w' mv b0 u.o) (hu:Ends g f v kq (oM fu li te pi nn) u) (hG:w.grownBy w' b0):Pc K w' ao n cap p:=by
 by_cases he:u.e=0
 ·exact hp.dY (h.well h' hu he hG)
 ·have:=hn he;subst this;exact hp.none
def Rj [Ol] (w:World) (o:Option MS) (e:Ending) (w':World):Prop:=
 ∃(mv:Value) (b0:Option Nat) (rv:Value) (c0:Option Nat),e= .returned (.tuple #[mv,rv])/\ dB w' mv b0 o/\ dO w' rv c0 o/\ Below w.heap.size w w'/\ (∀x,b0=some x->w.heap.size<=x/\ x<w'.heap.size)/\ (∀x,c0=some x->w.heap.size<=x/\ x<w'.heap.size)/\ Dj b0 c0
theorem oC [Ol] {fu li te pi:Int} {nn:Bool} {w:World} (hlo:Ol.lo<=w.heap.size):Calls Tryz.prog 6 #[.agg #[.int .i64 fu,.int .i64 li,.int .i64 te,.int .i64 pi],.bool nn] w (Rj w (oM fu li te pi nn)):=by
 have nu:=Lib.hid hlo;clear hlo;go_enter Tryz.func6,Tryz.ntmps6;go_upto_region 1 with(fail)
 refine au (fun V1 hV=>?_)
 have S1:Hid (Sx w V1 [⟨w.heap.size,[.int .i64 fu,.int .i64 li,.int .i64 te,.int .i64 pi]⟩] []):=by
  rw[hV];exact Sx.var (Sx.start (N:=[]) trivial) w.heap.size _ 25 rfl
 clear hV;cases nn with
 |true=>
  have HO:Hid (oM fu li te pi true=none):=if_pos (.inl rfl);go_wp2_with fail;refine bodyPost_ret (v:= .tuple #[.pointer none,.pointer none]) (by simp[results,Tryz.results6,go_sem]) rfl ?_;exact⟨.pointer none,none,.pointer none,none,rfl,.inl ⟨rfl,rfl,HO.out⟩,.inl ⟨rfl,rfl,HO.out⟩,S1.out.h,(fun x h=>by cases h),(fun x h=>by cases h),fun x h=>by cases h⟩
 |false=>
  obtain⟨x0,x1,x2,x3⟩:=S1.out.b.1.c4;cases hm:DI fu li te pi with
  |false=>
   have HO:Hid (oM fu li te pi false=none):=if_pos (.inr hm);go_wp2_with fail;refine(DW false hm).mono ?_;rintro e V2 ⟨rfl,hB⟩;have S2:Hid (Sx w V2 [⟨w.heap.size,[.int .i64 fu,.int .i64 li,.int .i64 te,.int .i64 pi]⟩] []):=S1.out.step hB;clear hB S1;go_wp2_with fail;refine bodyPost_ret (v:= .tuple #[.pointer none,.pointer none]) (by simp[results,Tryz.results6,go_sem]) rfl ?_;exact⟨.pointer none,none,.pointer none,none,rfl,.inl ⟨rfl,rfl,HO.out⟩,.inl ⟨rfl,rfl,HO.out⟩,S2.out.h,(fun x h=>by cases h),(fun x h=>by cases h),fun x h=>by cases h⟩
  |true=>
   have HO:Hid (oM fu li te pi false=some (MS.new fu li te pi)):=if_neg (by rw[hm];simp);go_wp2_with fail;refine(DW true hm).mono ?_;rintro e V2 ⟨rfl,hB⟩;have S2:Hid (Sx w V2 [⟨w.heap.size,[.int .i64 fu,.int .i64 li,.int .i64 te,.int .i64 pi]⟩] []):=S1.out.step hB;clear hB S1;clear x0 x1 x2 x3;obtain⟨x0,x1,x2,x3⟩:=S2.out.b.1.c4;have hlo2:Ol.lo<=V2.heap.size:=Nat.le_trans nu.out S2.out.h.size;have hwb:w.heap.size<=V2.heap.size:=S2.out.h.size;go_wp2_with fail;refine(NG hm).mono ?_;rintro e V3 ⟨b,rfl,hC,hb,hB⟩;have S3:Hid (Sx w V3 [⟨b,mc (MS.new fu li te pi)⟩,⟨w.heap.size,[.int .i64 fu,.int .i64 li,.int .i64 te,.int .i64 pi]⟩] []):=S2.out.made hC hb hB;have qb:Hid (Ol.lo<=b/\ w.heap.size<=b/\ b<V3.heap.size/\ Ol.lo<=V3.heap.size/\ w.heap.size<=V3.heap.size):=⟨Nat.le_trans hlo2 hb,Nat.le_trans hwb hb,hC.lt,Nat.le_trans hlo2 hB.size,Nat.le_trans hwb hB.size⟩;have DL:=Lib.hid (Q6 hm);clear hC hb hB hlo2 hwb x0 x1 x2 x3 hm S2;obtain⟨x0,x1,x2,x3⟩:=S3.out.b.t.1.c4;go_upto_region 4 with(fail)
   go_region;go_wp2_with fail;refine dS (Q:=bodyPost _ _ _ _ _) (fun W3 hW=>?_);obtain⟨c,hc⟩:∃c,c=V3.heap.size:=⟨_,rfl⟩
   have S9:Hid (Sx w W3 [⟨c,rc (MS.new fu li te pi)⟩,⟨b,mc (MS.new fu li te pi)⟩,⟨w.heap.size,[.int .i64 fu,.int .i64 li,.int .i64 te,.int .i64 pi]⟩] []):=by
    rw[hW];exact S3.out.drew.var c _ 66 hc
   have Q9:Hid (Ol.lo<=c/\ w.heap.size<=c/\ b<c):=by rw[hc];exact⟨qb.out.2.2.2.1,qb.out.2.2.2.2,qb.out.2.2.1⟩
   rw[<-hc];clear hW hc;refine bodyPost_ret (v:= .tuple #[.pointer (some ⟨b,0,none⟩),.pointer (some ⟨c,0,none⟩)]) (by simp[results,Tryz.results6,go_sem]) rfl ?_;rw[HO.out];exact⟨_,some b,_,some c,rfl,.inr ⟨b,_,rfl,rfl,rfl,S9.out.b.t.1,DL.out,qb.out.1⟩,.inr ⟨c,_,rfl,rfl,rfl,S9.out.b.1,DL.out,Q9.out.1⟩,S9.out.h,(fun x h=>by cases h;exact⟨qb.out.2.1,S9.out.b.t.1.lt⟩),(fun x h=>by cases h;exact⟨Q9.out.2.1,S9.out.b.1.lt⟩),fun x h e=>by cases h;cases e;have:=Q9.out.2.2;omega⟩
theorem BS {mv:Value} {w:World}:Calls Tryz.prog 15 #[mv,.pointer none] w (bN (.bool true) w):=by
 go_enter Tryz.func15,Tryz.ntmps15;go_upto_region 1 with(fail)
 refine wp_region_held_drew (S:=fun _=>True) (by kernel_rfl) trivial (fun hH=>?_);refine ak (fun V hW=>?_);have HB:Hid (Below w.heap.size w V):=by rw[hW];exact(Below.refl _ _).drew
 clear hW;refine aB 0 hH ?_
 try simp only[ai]
 refine aB 1 hH ?_
 try simp only[ai]
 refine aB 2 hH ?_
 try simp only[ai]
 refine jJ 3 hH ?_
 try simp only[ai]
 refine jJ 4 hH ?_
 try simp only[ai]
 refine jJ 5 hH ?_
 try simp only[ai]
 refine jJ 6 hH ?_
 try simp only[ai]
 refine jJ 7 hH ?_
 try simp only[ai]
 refine jJ 8 hH ?_
 try simp only[ai]
 refine jJ 9 hH ?_
 try simp only[ai]
 refine jJ 10 hH ?_
 try simp only[ai]
 refine jJ 11 hH ?_
 try simp only[ai]
 refine jJ 12 hH ?_
 try simp only[ai]
 refine jJ 13 hH ?_
 try simp only[ai]
 refine jJ 14 hH ?_
 try simp only[ai]
 refine jJ 15 hH ?_
 try simp only[ai]
 refine jJ 16 hH ?_
 try simp only[ai]
 refine jJ 17 hH ?_
 try simp only[ai]
 refine jJ 18 hH ?_
 try simp only[ai]
 refine aB 19 hH ?_
 try simp only[ai]
 refine aB 20 hH ?_
 try simp only[ai]
 refine wpAnyH_done (by kernel_rfl) ?_ _
 clear hH;go_wp2_with fail;go_ret;exact⟨rfl,HB.out⟩
theorem BU {b c:Nat} {s:MS} {w:World} (hc:Cells w b (mc s)) (hd:Cells w c (rc s)):Calls Tryz.prog 15 #[.pointer (some ⟨b,0,none⟩),.pointer (some ⟨c,0,none⟩)] w (bN (.bool true) w):=by
 obtain⟨z0,hz0⟩:∃z,z=s.st:=⟨_,rfl⟩;obtain⟨z1,hz1⟩:∃z,z=s.wh:=⟨_,rfl⟩;obtain⟨z2,hz2⟩:∃z,z=s.n:=⟨_,rfl⟩;have HF:Hid (∀V,Cells V b (mc s)->Calls Tryz.prog 40 #[.pointer (some ⟨b,0,none⟩)] V fun e V'=>e= .returned (.int .i64 z0)/\ V=V'):=fun V h=>by rw[hz0];exact Ku h
 have HN:Hid (∀V,Cells V b (mc s)->Calls Tryz.prog 41 #[.pointer (some ⟨b,0,none⟩)] V (bN (.agg #[.int .i64 z1,.int .i64 z2]) V)):=fun V h=>by rw[hz1,hz2];exact Kv h
 have HT:Hid (∀w':World,Cells w' c (rc s)->w'.cell? ⟨c,4,none⟩=some (.int .i64 z0)/\ w'.cell? ⟨c,6,none⟩=some (.int .i64 z1)/\ w'.cell? ⟨c,7,none⟩=some (.int .i64 z2)):=fun V h=>by rw[hz0,hz1,hz2];exact⟨h.cell 4,h.cell 6,h.cell 7⟩
 have QL:=Lib.hid (And.intro hc hd);clear hz0 hz1 hz2 hc hd;go_enter Tryz.func15,Tryz.ntmps15;go_upto_region 1 with(fail)
 refine wp_region_held_drew (S:=fun w'=>w'.cell? ⟨c,4,none⟩=some (.int .i64 z0)/\ w'.cell? ⟨c,6,none⟩=some (.int .i64 z1)/\ w'.cell? ⟨c,7,none⟩=some (.int .i64 z2)) (by kernel_rfl) (HT.out _ QL.out.2) (fun hH=>?_);refine ak (fun V hW=>?_);have HB:Hid (Below w.heap.size w V/\ Cells V b (mc s)/\ Cells V c (rc s)):=by rw[hW];exact⟨(Below.refl _ _).drew,QL.out.1.keep rfl,QL.out.2.keep rfl⟩
 rw[<-hW]at hH;clear hW QL;refine aB 0 hH ?_
 try simp only[ai]
 refine aB 1 hH ?_
 try simp only[ai]
 refine aB 2 hH ?_
 try simp only[ai]
 refine aB 3 hH ?_
 try simp only[ai]
 refine aB 5 hH ?_
 try simp only[ai]
 refine aB 6 hH ?_
 try simp only[ai]
 refine aB 7 hH ?_
 try simp only[ai]
 refine aB 8 hH ?_
 try simp only[ai]
 refine aj 4 rfl (by kernel_rfl) (fun KK hK=>?_);go_simp;refine(HF.out _ HB.out.2.1).mono ?_;rintro e V1 ⟨rfl,rfl⟩;go_wp2_with fail;clear hH;refine hK.out _ _ (HT.out _ HB.out.2.2) fun hH=>?_;clear hK KK
 try simp only[ai]
 refine aB 9 hH ?_
 try simp only[ai]
 refine aB 10 hH ?_
 try simp only[ai]
 refine aB 11 hH ?_
 try simp only[ai]
 refine aB 13 hH ?_
 try simp only[ai]
 refine aB 14 hH ?_
 try simp only[ai]
 refine aB 15 hH ?_
 try simp only[ai]
 refine aB 16 hH ?_
 try simp only[ai]
 refine aj 12 rfl (by kernel_rfl) (fun KK hK=>?_);go_simp;refine(HN.out _ HB.out.2.1).mono ?_;rintro e V1 ⟨rfl,hB⟩;have HB2:Hid (Below w.heap.size w V1/\ Cells V1 b (mc s)/\ Cells V1 c (rc s)):=⟨Below.steps HB.out.1 hB,HB.out.2.1.keep (hB.block b HB.out.2.1.lt),HB.out.2.2.keep (hB.block c HB.out.2.2.lt)⟩;clear hB HB;go_wp2_with fail;clear hH;refine hK.out _ _ (HT.out _ HB2.out.2.2) fun hH=>?_;clear hK KK
 try simp only[ai]
 refine aB 17 hH ?_
 try simp only[ai]
 refine aB 18 hH ?_
 try simp only[ai]
 refine aB 19 hH ?_
 try simp only[ai]
 refine aB 20 hH ?_
 try simp only[ai]
 refine wpAnyH_done (by kernel_rfl) ?_ _
 clear hH;go_wp2_with fail;go_ret;exact⟨rfl,HB2.out.1⟩
theorem vS [Ol] {mv rv:Value} {b0 c0:Option Nat} {o:Option MS} {w:World} (hM:dB w mv b0 o) (hR:dO w rv c0 o):Calls Tryz.prog 15 #[mv,rv] w (bN (.bool true) w):=by
 rcases hR with⟨rfl,_⟩|⟨c,s,rfl,_,rfl,hc,_⟩
 ·exact BS
 ·rcases hM with⟨_,_,h⟩|⟨b,s',rfl,_,h,hb,_⟩
  ·cases h
  ·cases h;exact BU hb hc
end Go.Proofs.YthdhjckangekoaaGreat
