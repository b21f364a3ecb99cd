package centre

import (
	"watchword/api"
	"watchword/cert"
	"watchword/name"
	"watchword/shape"
)

// CopyAnchors returns equal anchors.
func CopyAnchors(l []api.Anchor) []api.Anchor {
	return shape.Copies(l, func(a api.Anchor) api.Anchor {
		return api.Anchor{Name: name.Copy(a.Name), Group: a.Group, Public: shape.Bytes(a.Public)}
	})
}

// CopyRevoked returns equal revocations.
func CopyRevoked(l []api.Revocation) []api.Revocation {
	return shape.Copies(l, func(r api.Revocation) api.Revocation {
		return api.Revocation{Issuer: name.Copy(r.Issuer), Serial: r.Serial}
	})
}

// CopyConfig returns an equal configuration.
func CopyConfig(c api.CentreConfig) api.CentreConfig {
	d := c
	d.Anchors, d.Revoked = CopyAnchors(c.Anchors), CopyRevoked(c.Revoked)
	d.Chain, d.Private = shape.Copies(c.Chain, cert.Copy), shape.Bytes(c.Private)
	return d
}
