package tests

import (
	"testing"

	"loop.example/landmarch/impl"
)

// The document's table of constants.
func TestConstants(t *testing.T) {
	rows := []struct {
		name      string
		got, want int
	}{
		{"PlcMaxCells", impl.PlcMaxCells, 4},
		{"PlcMaxWidth", impl.PlcMaxWidth, 8},
		{"PlcLeft", impl.PlcLeft, 0},
		{"PlcRight", impl.PlcRight, 1},
		{"PlcNone", impl.PlcNone, -1},
		{"WlkMaxId", impl.WlkMaxId, 9},
		{"WlkMaxCoins", impl.WlkMaxCoins, 99},
		{"WlkMaxSeq", impl.WlkMaxSeq, 900},
		{"WlkMaxCode", impl.WlkMaxCode, 9},
		{"OrdStep", impl.OrdStep, 1},
		{"OrdGive", impl.OrdGive, 2},
		{"OrdDrop", impl.OrdDrop, 3},
		{"OrdPick", impl.OrdPick, 4},
		{"OrdThrow", impl.OrdThrow, 5},
		{"OrdRest", impl.OrdRest, 6},
		{"OrdMaxN", impl.OrdMaxN, 9},
		{"CodeDone", impl.CodeDone, 1},
		{"CodeWall", impl.CodeWall, 2},
		{"CodePoor", impl.CodePoor, 3},
		{"CodeFar", impl.CodeFar, 4},
		{"CodeFull", impl.CodeFull, 5},
		{"CodeBare", impl.CodeBare, 6},
		{"CodeInner", impl.CodeInner, 7},
		{"CodeOld", impl.CodeOld, 8},
		{"CodeAway", impl.CodeAway, 9},
		{"PclWalker", impl.PclWalker, 1},
		{"PclCoins", impl.PclCoins, 2},
		{"PclMaxN", impl.PclMaxN, 5000},
		{"CllMaxGround", impl.CllMaxGround, 900},
		{"LogDo", impl.LogDo, 1},
		{"LogIn", impl.LogIn, 2},
		{"LogAck", impl.LogAck, 3},
		{"LogMax", impl.LogMax, 250},
		{"StoMaxAge", impl.StoMaxAge, 900},
		{"StoDone", impl.StoDone, 1},
		{"StoFenced", impl.StoFenced, 2},
		{"StoElse", impl.StoElse, 3},
		{"StoNot", impl.StoNot, 4},
		{"GstMax", impl.GstMax, 20},
		{"ArbMaxServers", impl.ArbMaxServers, 3},
		{"MsgGrant", impl.MsgGrant, 1},
		{"MsgAsk", impl.MsgAsk, 2},
		{"MsgTold", impl.MsgTold, 3},
		{"MsgAway", impl.MsgAway, 4},
		{"MsgParcel", impl.MsgParcel, 5},
		{"MsgGot", impl.MsgGot, 6},
		{"MsgGhost", impl.MsgGhost, 7},
		{"MsgGate", impl.MsgGate, -1},
		{"WldGrant", impl.WldGrant, 1},
		{"WldAsk", impl.WldAsk, 2},
		{"WldSay", impl.WldSay, 3},
		{"WldBring", impl.WldBring, 4},
		{"WldLose", impl.WldLose, 5},
		{"WldTwice", impl.WldTwice, 6},
		{"WldTick", impl.WldTick, 7},
		{"WldFall", impl.WldFall, 8},
		{"WldRise", impl.WldRise, 9},
		{"WldMaxNet", impl.WldMaxNet, 40},
		{"WldMaxNotes", impl.WldMaxNotes, 150},
		{"CalmMaxRounds", impl.CalmMaxRounds, 60},
		{"CalmMaxBring", impl.CalmMaxBring, 200},
		{"RunMaxEvents", impl.RunMaxEvents, 400},
		{"OneMaxAir", impl.OneMaxAir, 100000},
		{"DskMaxLines", impl.DskMaxLines, 400},
	}
	for _, row := range rows {
		if row.got != row.want {
			t.Errorf("%s is %d, not %d", row.name, row.got, row.want)
		}
	}
}
