"""mendnet: nets that one loss can't part."""
