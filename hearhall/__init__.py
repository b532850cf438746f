"""Music listened to, in whole numbers."""
