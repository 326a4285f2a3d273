"""Images of discs in the form of ISO 9660, read strictly."""
