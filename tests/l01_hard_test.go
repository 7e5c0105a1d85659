package tests

import (
	"math"
	"testing"

	"loop.example/g01302/impl"
)

// The arguments of these tests were searched for: as 64-bit numbers, their
// results lie next to the middle between two 32-bit ones. A slip in the last
// digit of a constant or of a step, as from a product that is not rounded
// before it is added, leads to the other one.

var hardSines = [][2]uint32{
	{0x3d7d7f58, 0x3ec21dd8}, {0x3c6eb990, 0x3dbb3b76}, {0x3d00c8a4, 0x3e48fad5}, {0x3c490961, 0x3d9dbcc9}, {0x39e61359, 0x3b34b362}, {0x3ca73e15, 0x3e02fdf7}, {0x3e0fb527, 0x3f459959},
	{0x39ed6b8c, 0x3b3a7814}, {0x3d17dfea, 0x3e6c6975}, {0x3d46972b, 0x3e999244}, {0x3c2930d5, 0x3d84c9f5}, {0x3dac0344, 0x3f00ea1c}, {0x3e269aa8, 0x3f5a7179}, {0x3e66405f, 0x3f7ccfc5},
	{0x3e2776b4, 0x3f5b24ed}, {0x3e5d5bdc, 0x3f7a3d1c}, {0x3e0fc219, 0x3f45a645}, {0x3e7bdc19, 0x3f7feadb}, {0x3e3d2c59, 0x3f6ac748}, {0x3e76ead5, 0x3f7f9a41}, {0x3e6dcb12, 0x3f7e6779},
	{0x3e6e5d9f, 0x3f7e80bb}, {0x3e659b17, 0x3f7ca66b}, {0x3e620129, 0x3f7bad23}, {0x3ee05015, 0x3ec21dd8}, {0x3ed4ff2f, 0x3f00ea1c}, {0x3eacb2ac, 0x3f5a7179}, {0x3f565956, 0xbf5a7179},
	{0x3f29a6aa, 0xbf5a7179}, {0x3ede0567, 0x3ecf5cc1}, {0x3f29ddad, 0xbf5b24ed}, {0x3f562253, 0xbf5b24ed}, {0x3f94d355, 0x3f5a7179}, {0x3fd4d355, 0xbf5a7179}, {0x3feb2cab, 0xbf5a7179},
	{0x3fab2cab, 0x3f5a7179}, {0xbd7d7f58, 0xbec21dd8}, {0xbee05015, 0xbec21dd8}, {0xbc6eb990, 0xbdbb3b76}, {0xbd00c8a4, 0xbe48fad5}, {0xbc490961, 0xbd9dbcc9}, {0xbca73e15, 0xbe02fdf7},
}

func TestHardSines(t *testing.T) {
	for _, c := range hardSines {
		wantNumber(t, impl.SineTurns(number(c[0])), number(c[1]), "SineTurns of bits", c[0])
	}
}

func TestHardPhasors(t *testing.T) {
	for _, c := range []struct {
		turns  float64
		re, im uint32
	}{
		{0.19081908990366594, 0x3eba06fe, 0x3f6e8130}, {0.19235506273804492, 0x3eb56a4b, 0x3f6f6423}, {0.2068040340903402, 0x3e8942e2, 0x3f76a102}, {0.21115943142665333, 0x3e776d25, 0x3f786a1c},
		{0.21262476695366817, 0x3e6e4475, 0x3f78f936}, {0.21765524902636416, 0x3e4ead0d, 0x3f7abb48}, {0.21791340947805954, 0x3e4d0c84, 0x3f7ad0a7}, {0.22751399134065498, 0x3e103199, 0x3f7d7300},
		{0.22896313280763367, 0x3e06f501, 0x3f7dc456}, {0.23024574028906553, 0x3dfd8b80, 0x3f7e07d5}, {0.23692036097102936, 0x3da81e72, 0x3f7f22d0}, {0.4802457402890655, 0xbf7e07d5, 0x3dfd8b80},
		{0.7302457402890655, 0xbdfd8b80, 0xbf7e07d5}, {0.9802457402890655, 0x3f7e07d5, 0xbdfd8b80}, {-0.7697542597109345, 0x3dfd8b80, 0x3f7e07d5}, {0.48692036097102936, 0xbf7f22d0, 0x3da81e72},
	} {
		wantComplex(t, impl.PhasorOf(c.turns), complex(number(c.re), number(c.im)), "PhasorOf", c.turns)
	}
	for _, c := range hardSines {
		for quarter := range 4 {
			turns := float64(number(c[0])) + float64(quarter)/4
			wantComplex(t, impl.PhasorOf(turns), phasorOracle(turns), "PhasorOf", turns)
			wantComplex(t, impl.PhasorOf(0.25-turns), phasorOracle(0.25-turns), "PhasorOf", 0.25-turns)
		}
	}
}

func TestHardAngles(t *testing.T) {
	for _, c := range [][3]uint32{
		{0x4308e652, 0x43796863, 0x3da3a033}, {0x42393828, 0x4377a0ab, 0x3cf104c2}, {0x428c915e, 0x435d5000, 0x3d487626}, {0x42abc676, 0x41c4a670, 0x3e529215}, {0x4207a93c, 0x42be717c, 0x3d5f0e26},
		{0x434f810f, 0x4289bdd6, 0x3e4bc5e5}, {0x422707a0, 0x42895082, 0x3db21ba2}, {0x42f533f0, 0x3f123900, 0x3e7f3da0}, {0x4235bc1c, 0x41cfef48, 0x3e2b4fde}, {0x435f4a72, 0x42ae89d2, 0x3e43477b},
		{0x42b560ce, 0x42fb1806, 0x3dcbe77b}, {0x43647b1a, 0x4375da47, 0x3df41162}, {0x42bd2046, 0x42f6b0b2, 0x3dd531fc},
	} {
		wantNumber(t, impl.AngleTurns(number(c[0]), number(c[1])), number(c[2]), "AngleTurns of bits", c[0], c[1])
	}
}

func TestHardLogs(t *testing.T) {
	for _, c := range [][2]uint32{
		{0x3fa66c0b, 0x3e8665f9}, {0x3f7ffffe, 0xb4000001}, {0x3f554d38, 0xbe3ad974}, {0x3fb887c6, 0x3ebb4802}, {0x3f5eae47, 0xbe0ec8e4}, {0x3f44fcf4, 0xbe862956}, {0x3f5ca982, 0xbe181c1a},
		{0x3f6a4251, 0xbdb5c281}, {0x3fb31c06, 0x3eac03db}, {0x3f9f93ce, 0x3e61ca60}, {0x3fb3cc96, 0x3eadfb9b}, {0x3fb44d2e, 0x3eaf6948}, {0x3fba5038, 0x3ec03463}, {0x3f4638b6, 0xbe82f732},
		{0x3f40253f, 0xbe92e7c8}, {0x3f4c989e, 0xbe6584ca}, {0x65d890d3, 0x4254d1f8}, {0x6f31a8ec, 0x42845a88}, {0x4c5d65a5, 0x418f034a}, {0x38dcbe38, 0xc1128ba4}, {0x4d604ebe, 0x419a352c},
		{0x66a8c860, 0x42595e46}, {0x1f116ab8, 0xc233b53e}, {0x3c413d3a, 0xc08e158f}, {0x0dc8bba4, 0xc289bac4}, {0x41178feb, 0x400fe5e7}, {0x4665a9a6, 0x41198725}, {0x1a8446cb, 0xc24d0a45},
		{0x5ee8984e, 0x422e4a21}, {0x2c4c24b7, 0xc1d48710}, {0x3bf86ef0, 0xc09c399e}, {0x111c87f8, 0xc28085df},
	} {
		wantNumber(t, impl.LogNumber(number(c[0])), number(c[1]), "LogNumber of bits", c[0])
	}
}

func TestHardPowersOfE(t *testing.T) {
	for _, c := range [][2]uint32{
		{0x3f9c7c14, 0x405954a2}, {0x426c57df, 0x6a177625}, {0x3a2e8520, 0x3f8015d2}, {0x3673ffe3, 0x3f80001f}, {0x3f5d0b5f, 0x4017c404}, {0x4034d02b, 0x4186ea50}, {0x383a3ef1, 0x3f800175},
		{0x4283070f, 0x6eb71737}, {0x3d7010de, 0x3f87b9ec}, {0x3ed3d2a2, 0x3fc1973e}, {0xc16912cd, 0x34fd331a}, {0xbee0e6cd, 0x3f24fec8}, {0xba7242a6, 0x3f7fc376}, {0xc069222d, 0x3cd67a1b},
		{0xb6d9002e, 0x3f7fff94}, {0xbffc842d, 0x3e0e6827}, {0xbb8d98f5, 0x3f7ee56a}, {0xc1963bdb, 0x31f01195}, {0xbafedc64, 0x3f7f80b2}, {0xbb9cbb8e, 0x3f7ec749}, {0x428a94c5, 0x7179e419},
		{0x4286088f, 0x6fcdbda3}, {0x4288942b, 0x70b7a4c5}, {0x429675e7, 0x75b96184}, {0x428eee5c, 0x730978b1}, {0xc2abb454, 0x018d2f96}, {0xc2ae7135, 0x008fa9a1}, {0xc2910cef, 0x0b253602},
		{0xc2864d62, 0x0f0b3c59}, {0xc2a6a1cb, 0x035eece8}, {0xc2962393, 0x094f987a},
	} {
		wantNumber(t, impl.ExpNumber(number(c[0])), number(c[1]), "ExpNumber of bits", c[0])
	}
}

// Each number of tenths begins near a power of ten.
func TestTenthsAtTheirBounds(t *testing.T) {
	for n := -4400; n <= 3850; n += 3 {
		x := float32(math.Pow(10, (float64(n)-0.5)/100))
		for _, y := range []float32{math.Nextafter32(x, 0), x, math.Nextafter32(x, infinity)} {
			got, ok := impl.TenthsOf(y)
			wantThat(t, got, tenthsOracle(y), "TenthsOf", y)
			wantThat(t, ok, true, "TenthsOf", y)
		}
	}
}
