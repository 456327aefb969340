import Derived.Test.YtbmcofdodfcnnaaGreatDoorGWH
set_option linter.all false
set_option maxHeartbeats 400000000
set_option maxRecDepth 100000
namespace Go.Proofs.YtbmcofdodfcnnaaGreatDoor
open Pn
open Go.Proofs.Tryz
open Go.RowKit
theorem b1Z (t:Pn.Tok) (l:List Pn.Tok) (g o cap:Nat) (w:World) (hl:l.length<=1999) (hg:g<w.heap.size) (hcap:l.length+1<=cap) (hc:a0A t l g o w)
    (hk:(t.kind==46)=false) (hs:t.text=[109,118]\/t.text=[110,111,116]\/t.text=[110,101,103]\/t.text=[115,101,113,122]\/t.text=[115,110,101,122]):
    Calls prog 243 #[.slice (some ⟨g,o,none⟩) (l.length+1) cap] w fun e w'=>a2k (a3d t l).1 (a3d t l).2 w e w':=by
 rcases hs with hs|hs|hs|hs|hs
 all_goals
  obtain ⟨t0,t1,_,_⟩:=hc 0 t rfl;simp only[Nat.zero_mul,Nat.add_zero]at t0 t1;have HV:Hid (a3d t l=b5v t.kind t.text (a0r l [114,44,114] [] 0 ⟨#[]⟩)):=a0a (by unfold a3d;rw[hs];rfl)
  rw[hs]at HV;have hS:=(a05 t).trans hs;generalize hR:a3d t l=R at *;clear hR hs;generalize hn:l.length+1=n at *;have HL:=a0a hn;have HT:=a0a (a8C (cap:=cap-1) hn hc hg);have HVH:=a0a (fun (v:Value) (hv:a2L w v l)=>a1f l ⟨#[114,44,114]⟩ v w (by omega) hv)
  have hp1:0<n:=by omega
  have hp2:(0:Int)<n:=by omega
  have hn2:n<=2000:=by omega
  clear hn hl hc;generalize t.S=s at *;go_enter func243,ntmps243;go_upto_region 42 with fail;go_cut [0,12,13,14,15] (fun l0 v nn nm ok wx=>l0=.slice (some ⟨g,o,none⟩) n cap/\c5e l [114,44,114] w v nn nm ok wx)
  case first=>
   go_wp2_with fail
   all_goals
    first
    | ((have hq:n=1:=by omega);refine (a0b HVH _ (a0v (a0b HL) hq)).mono ?_;clear hq)
    | (refine (a0b HVH _ (a0b HT)).mono ?_)
    rintro e wx ⟨ho,hBx⟩;replace ho:a1z (a0r l [114,44,114] [] 0 ⟨#[]⟩) w e wx:=ho;have HBx:=a0a hBx;clear hBx
    cases hop:a0r l [114,44,114] [] 0 ⟨#[]⟩ with
    | none=>
     rw[hop]at ho;have HOP:=a0a hop;clear hop;simp only[a1z]at ho;subst ho;go_wp2_with fail;go_meet;case rel=>exact ⟨by first|rfl|rw[‹cap=1›],by rw[a0b HOP],HBx.out⟩
    | some r=>
     obtain ⟨rs,nn,nm⟩:=r;rw[hop]at ho;have HOP:=a0a hop;clear hop;simp only[a1z]at ho;obtain ⟨v,he,hown⟩:=ho;have HOW:=a0a hown;clear hown;subst he;go_wp2_with fail;go_meet;case rel=>exact ⟨by first|rfl|rw[‹cap=1›],by rw[a0b HOP];exact ⟨rfl,rfl,rfl,HOW.out⟩,HBx.out⟩
  case rest=>
   obtain ⟨rfl,hP,hBx⟩:=hcut;replace t0:=(hBx.cell (p:=⟨g,o,none⟩) hg).trans t0;replace t1:=(hBx.cell (p:=⟨g,o+1,none⟩) hg).trans t1;have hzx:w.heap.size<=wc.heap.size:=hBx.size;(have hgx:g<wc.heap.size:=by omega);have HBx:=a0a hBx;clear hBx HVH HT
   cases hop:a0r l [114,44,114] [] 0 ⟨#[]⟩ with
   | none=>
    rw[hop]at hP HV;have HQ:R=([],4):=HV.out;subst HQ;clear hop HV;subst hP;go_wp2_with fail;go_ret2;exact a0n HBx.out
   | some r=>
    obtain ⟨rs,nn,nm⟩:=r;rw[hop]at hP HV;(have hrl:rs.length=2:=by have:=a2B _ _ _ _ _ _ _ _ hop;simpa using this);clear hop;obtain ⟨e1,e2,e3,hown⟩:=hP;subst e1 e2 e3;by_cases hkd:t.kind=119
    ·have hkb:(t.kind != 119)=false:=by simp[hkd]
     obtain ⟨r0,r1,rfl⟩:∃r0 r1,rs=[r0,r1]:=c8d hrl;(obtain ⟨g2,cap2,hv,hg2,hgs2,hcap2,hcc⟩:=a3M hown (by simp));replace hv:u12=.slice (some ⟨g2,0,none⟩) 2 cap2:=hv;subst hv;have z0:wc.cell? ⟨g2,0,none⟩=some (.int .i64 r0):=hcc 0 _ rfl;have z1:wc.cell? ⟨g2,1,none⟩=some (.int .i64 r1):=hcc 1 _ rfl;clear hcc;clear hrl hown
     first
     | ((have HQ:Hid (R=if Pn.right ⟨29,r0,r1,0,0⟩ then ([⟨⟨29,r0,r1,0,0⟩,nm.data.toList,false,[]⟩],0) else ([],5)):=a0a (HV.out.trans (by rw[a1y hkd];rfl)));obtain ⟨rb,hr⟩:∃rb,Pn.right ⟨29,r0,r1,0,0⟩=rb:=⟨_,rfl⟩)
     | ((have HQ:Hid (R=if Pn.right ⟨32,r0,r1,0,-1⟩ then ([⟨⟨32,r0,r1,0,-1⟩,nm.data.toList,false,[]⟩],0) else ([],5)):=a0a (HV.out.trans (by rw[a1y hkd];rfl)));obtain ⟨rb,hr⟩:∃rb,Pn.right ⟨32,r0,r1,0,-1⟩=rb:=⟨_,rfl⟩)
     | ((have HQ:Hid (R=if Pn.right ⟨2,r0,0,r1,0⟩ then ([⟨⟨2,r0,0,r1,0⟩,nm.data.toList,false,[]⟩],0) else ([],5)):=a0a (HV.out.trans (by rw[a1y hkd];rfl)));obtain ⟨rb,hr⟩:∃rb,Pn.right ⟨2,r0,0,r1,0⟩=rb:=⟨_,rfl⟩)
     | ((have HQ:Hid (R=if Pn.right ⟨31,r0,r1,0,1⟩ then ([⟨⟨31,r0,r1,0,1⟩,nm.data.toList,false,[]⟩],0) else ([],5)):=a0a (HV.out.trans (by rw[a1y hkd];rfl)));obtain ⟨rb,hr⟩:∃rb,Pn.right ⟨31,r0,r1,0,1⟩=rb:=⟨_,rfl⟩)
     | ((have HQ:Hid (R=if Pn.right ⟨5,r0,0,r1,0⟩ then ([⟨⟨5,r0,0,r1,0⟩,nm.data.toList,false,[]⟩],0) else ([],5)):=a0a (HV.out.trans (by rw[a1y hkd];rfl)));obtain ⟨rb,hr⟩:∃rb,Pn.right ⟨5,r0,0,r1,0⟩=rb:=⟨_,rfl⟩)
     clear HV hkd;go_wp2_with fail;go_region;go_wp2_with fail;refine (a0V ⟨_,_,_,_,_⟩ _).mono ?_;rintro e w5 ⟨rfl,hB5⟩;(obtain ⟨i0,i1,i2,i3,i4⟩:=a6j (wc:=wc) (T:=26) hB5 (by show wc.heap.size<(wc.alloc _).heap.size;simp) (fun _=>rfl));have HB5:=a0a hB5;clear hB5;rw[hr]
     cases rb with
     | false=>
      rw[hr]at HQ;have HQ':R=([],5):=HQ.out;subst HQ';clear hr HQ;go_wp2_with fail;go_ret2;exact a0n (a09 (below_drewN (HBx.out.alloc hzx _) 1) HB5.out)
     | true=>
      rw[hr]at HQ
      first
      | (have HQ':R=([⟨⟨29,r0,r1,0,0⟩,nm.data.toList,false,[]⟩],0):=HQ.out)
      | (have HQ':R=([⟨⟨32,r0,r1,0,-1⟩,nm.data.toList,false,[]⟩],0):=HQ.out)
      | (have HQ':R=([⟨⟨2,r0,0,r1,0⟩,nm.data.toList,false,[]⟩],0):=HQ.out)
      | (have HQ':R=([⟨⟨31,r0,r1,0,1⟩,nm.data.toList,false,[]⟩],0):=HQ.out)
      | (have HQ':R=([⟨⟨5,r0,0,r1,0⟩,nm.data.toList,false,[]⟩],0):=HQ.out)
      subst HQ';clear hr HQ;go_wp2_with fail;go_ret2
      first
      | (exact a0O (p:=⟨⟨29,r0,r1,0,0⟩,nm.data.toList,false,[]⟩) (a09 (below_drewN (HBx.out.alloc hzx _) 1) HB5.out))
      | (exact a0O (p:=⟨⟨32,r0,r1,0,-1⟩,nm.data.toList,false,[]⟩) (a09 (below_drewN (HBx.out.alloc hzx _) 1) HB5.out))
      | (exact a0O (p:=⟨⟨2,r0,0,r1,0⟩,nm.data.toList,false,[]⟩) (a09 (below_drewN (HBx.out.alloc hzx _) 1) HB5.out))
      | (exact a0O (p:=⟨⟨31,r0,r1,0,1⟩,nm.data.toList,false,[]⟩) (a09 (below_drewN (HBx.out.alloc hzx _) 1) HB5.out))
      | (exact a0O (p:=⟨⟨5,r0,0,r1,0⟩,nm.data.toList,false,[]⟩) (a09 (below_drewN (HBx.out.alloc hzx _) 1) HB5.out))
    ·have hkb:(t.kind != 119)=true:=by simp[hkd]
     have HQ:R=([],4):=HV.out.trans (a6x hkd _ _ _ _);subst HQ;clear HV hkd hown hrl;go_wp2_with fail;go_ret2;exact a0n HBx.out
